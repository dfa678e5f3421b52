/- Of this claim's texts the part 21: PutMath Put Shelf. -/
import Derived.WalkKit
import Derived.Laws.Closers25b
import Derived.Laws.Bits64
import Derived.Test.YtlgflddljhldhaaGreatProg
import Derived.ProofKit
import Derived.Below
import Derived.LoopTactic
import Derived.BigQuiet
import Derived.Deep.QuietTactic
import Derived.WalkSpells
import Derived.WalkLawsBesides
import Derived.Lib.Hide
import Derived.OwnWalk
import Derived.OpenShut
import Derived.Laws.IdiomStrings
import Derived.Shelf.Strings.Builder1
import Derived.Shelf.Small.Bits
import Derived.Shelf.Strconv.Itoa0
import Derived.Ground.SlgcProg
import Derived.Shelf.SlicesG.Cmp
section
namespace Go.Proofs.YtlgflddljhldhaaGreat.PutM
open Go.RowKit
def foldN (n : Int) : Nat := if 0 ≤ n then (2 * n).toNat else (2 * -(n + 1) + 1).toNat
theorem foldN_pos {n : Int} (h : 0 ≤ n) : (2 * n) = (foldN n : Int) := by unfold foldN; rw [if_pos h]; omega
theorem foldN_neg {n : Int} (h : ¬ 0 ≤ n) : (2 * -(n + 1) + 1) = (foldN n : Int) := by unfold foldN; rw [if_neg h]; omega
theorem foldN_lt {n : Int} (h1 : -9223372036854775808 ≤ n) (h2 : n ≤ 9223372036854775807) : foldN n < 18446744073709551616 := by
  unfold foldN; split <;> omega
theorem xor_ones (x : Nat) (h : x < 18446744073709551616) : x ^^^ 18446744073709551615 = 18446744073709551615 - x := by
  have h1 : (BitVec.ofNat 64 x ^^^ BitVec.allOnes 64).toNat = (~~~ (BitVec.ofNat 64 x)).toNat := by rw [BitVec.xor_allOnes]
  rw [BitVec.toNat_xor, BitVec.toNat_not, BitVec.toNat_allOnes, BitVec.toNat_ofNat, Nat.mod_eq_of_lt (by omega)] at h1
  omega
theorem fold_bits {n : Int} (h1 : -9223372036854775808 ≤ n) (h2 : n ≤ 9223372036854775807) :
    bits .xor .u64 (IntKind.u64.wrap (IntKind.u64.wrap n * 2)) (IntKind.u64.wrap (n / 9223372036854775808)) = (foldN n : Int) := by
  simp only [IntKind.wrap_u64]
  by_cases h : 0 ≤ n
  · rw [← foldN_pos h]
    have e1 : n % 18446744073709551616 * 2 % 18446744073709551616 = ((2 * n).toNat : Int) := by omega
    have e2 : n / 9223372036854775808 % 18446744073709551616 = ((0 : Nat) : Int) := by omega
    rw [e1, e2, bits_xor_u64_nat _ _ (by omega) (by omega), Nat.xor_zero]
    omega
  · rw [← foldN_neg h]
    have e1 : n % 18446744073709551616 * 2 % 18446744073709551616 = ((2 * n + 18446744073709551616).toNat : Int) := by omega
    have e2 : n / 9223372036854775808 % 18446744073709551616 = ((18446744073709551615 : Nat) : Int) := by omega
    rw [e1, e2, bits_xor_u64_nat _ _ (by omega) (by omega), xor_ones _ (by omega)]
    omega
def enc (u : Nat) : List UInt8 := if u < 128 then [UInt8.ofNat u] else UInt8.ofNat (u % 128 + 128) :: enc (u / 128)
termination_by u
decreasing_by omega
theorem enc_lt {u : Nat} (h : u < 128) : enc u = [UInt8.ofNat u] := by rw [enc, if_pos h]
theorem enc_ge {u : Nat} (h : ¬ u < 128) : enc u = UInt8.ofNat (u % 128 + 128) :: enc (u / 128) := by rw [enc, if_neg h]
theorem enc_len : ∀ (k u : Nat), u < 128 ^ (k + 1) → 1 ≤ (enc u).length ∧ (enc u).length ≤ k + 1 := by
  intro k
  induction k with
  | zero => intro u h; rw [enc_lt (by simpa using h)]; simp
  | succ k ih =>
    intro u h
    by_cases h1 : u < 128
    · rw [enc_lt h1]; simp
    · rw [enc_ge h1]
      have := ih (u / 128) (by rw [Nat.div_lt_iff_lt_mul (by omega)]; rw [Nat.pow_succ] at h; exact h)
      simp only [List.length_cons]
      omega
theorem enc_len64 {u : Nat} (h : u < 18446744073709551616) : 1 ≤ (enc u).length ∧ (enc u).length ≤ 10 :=
  enc_len 9 u (Nat.lt_of_lt_of_le h (by decide))
theorem ofNat_toNat {u : Nat} (h : u < 256) : ((UInt8.ofNat u).toNat : Int) = (u : Int) := by
  rw [UInt8.toNat_ofNat']; omega
theorem step_ge {l : List UInt8} {z u : Nat} (he : l ++ enc z = enc u) (h : ¬ z < 128) : (l ++ [UInt8.ofNat (z % 128 + 128)]) ++ enc (z / 128) = enc u := by
  rw [← he, enc_ge h]; simp
theorem step_lt {l : List UInt8} {z u : Nat} (he : l ++ enc z = enc u) (h : z < 128) : l ++ [UInt8.ofNat z] = enc u := by
  rw [← he, enc_lt h]
theorem len_le {l : List UInt8} {z u : Nat} (he : l ++ enc z = enc u) (hz : z < 18446744073709551616) (hu : u < 18446744073709551616) : l.length ≤ 9 := by
  have h1 := congrArg List.length he
  have h2 := enc_len64 hz
  have h3 := enc_len64 hu
  rw [List.length_append] at h1
  omega
theorem byte_or (z : Nat) : bits .or .u8 (IntKind.u8.wrap (z : Int)) 128 = ((UInt8.ofNat (z % 128 + 128)).toNat : Int) := by
  have e : IntKind.u8.wrap (z : Int) = ((z % 256 : Nat) : Int) := by simp [IntKind.wrap, IntKind.bits, IntKind.signed]
  rw [e, ofNat_toNat (by omega)]
  have h : ∀ a : Fin 256, bits .or .u8 ((a.val : Nat) : Int) 128 = ((a.val % 128 + 128 : Nat) : Int) := by decide +kernel
  have := h ⟨z % 256, by omega⟩
  simp only at this
  rw [this]
  omega
def bytesOf (l : List UInt8) : ByteArray := ⟨l.toArray⟩
def encB (n : Int) : ByteArray := bytesOf (enc (foldN n))
theorem encB_size {n : Int} (h1 : -9223372036854775808 ≤ n) (h2 : n ≤ 9223372036854775807) : 1 ≤ (encB n).size ∧ (encB n).size ≤ 10 := by
  have := enc_len64 (foldN_lt h1 h2)
  simpa [encB, bytesOf, ByteArray.size] using this
end Go.Proofs.YtlgflddljhldhaaGreat.PutM
end
section
namespace Go.Proofs.YtlgflddljhldhaaGreat.PutC
open Go.RowKit PutM
theorem info_u8 : (Tryz.prog.info? 5).map (fun i => (i.zero, i.size, i.bytes)) = some (some (.int .u8 0), 1, 1) := by kernel_rfl
theorem ret_u64 {a b : Int} (h : a = b) : Ending.returned (.int .u64 a) = .returned (.int .u64 b) := by rw [h]
theorem ret_str {a b : ByteArray} (h : a = b) : Ending.returned (.string a) = .returned (.string b) := by rw [h]
theorem fold_spec (n : Int) (w : World) (hn : -9223372036854775808 ≤ n) (hn2 : n ≤ 9223372036854775807) :
    Calls Tryz.prog 94 #[.int .i64 n] w fun e w' => e = .returned (.int .u64 (foldN n)) ∧ w = w' := by
  by_cases h : 0 ≤ n
  · have H := Lib.hid (foldN_pos h)
    go_enter Tryz.func94, Tryz.ntmps94
    go_wp2
    go_ret
    exact ⟨ret_u64 H.out, rfl⟩
  · have H := Lib.hid (foldN_neg h)
    go_enter Tryz.func94, Tryz.ntmps94
    go_wp2
    go_ret
    exact ⟨ret_u64 H.out, rfl⟩
theorem fold_impl (n : Int) (w : World) (hn : -9223372036854775808 ≤ n) (hn2 : n ≤ 9223372036854775807) :
    Calls Tryz.prog 98 #[.int .i64 n] w fun e w' => e = .returned (.int .u64 (foldN n)) ∧ w = w' := by
  have H := Lib.hid (fold_bits hn hn2)
  go_enter Tryz.func98, Tryz.ntmps98
  go_wp2
  go_ret
  exact ⟨ret_u64 H.out, rfl⟩
def Own (B : Nat) (w : World) (v : Value) (l : List UInt8) : Prop := w.ownsRow B 5 1 v l.length (l.map fun c => .int .u8 (c.toNat : Int))
theorem one_map (l : List UInt8) (c : UInt8) : (l.map fun c => Value.int .u8 (c.toNat : Int)) ++ [Value.int .u8 (c.toNat : Int)] = (l ++ [c]).map fun c => Value.int .u8 (c.toNat : Int) := by simp
theorem conv_of_own {B : Nat} {w : World} {v : Value} {l : List UInt8} (h : w.ownsRow B 5 1 v l.length (l.map fun c => Value.int .u8 (c.toNat : Int))) (hne : l ≠ []) :
    (convert 102 9 v).run Tryz.prog w = .ok (.string (bytesOf l)) w := by
  have hc := fun g hg j u hj => World.ownsRow.cells h (g := g) hg j u hj
  rcases h with ⟨_, ⟨_, hn⟩ | ⟨g, cap, cur, rfl, _⟩⟩
  · exact absurd (List.length_eq_zero_iff.1 hn) hne
  · exact run_convert_bytes_back w 102 9 5 ⟨g, 0, none⟩ cap l Tryz.underlying102 Tryz.underlying5 Tryz.underlying9 (fun j hj => hc g rfl j _ (by simp [List.getElem?_eq_getElem hj]))
set_option maxRecDepth 100000 in
set_option maxHeartbeats 800000 in
theorem put_spec (n : Int) (w : World) (hn : -9223372036854775808 ≤ n) (hn2 : n ≤ 9223372036854775807) :
    Calls Tryz.prog 64 #[.int .i64 n] w fun e w' => e = .returned (.string (encB n)) ∧ Below w.heap.size w w' := by
  have hf := foldN_lt hn hn2
  have Hn := Lib.hid (And.intro hn hn2)
  have He : Hid (encB n = bytesOf (enc (foldN n))) := Lib.hid rfl
  obtain ⟨i0, hi, hz0, hz1, hz2⟩ := info_parts info_u8
  have H0 := Lib.hid hi
  have H1 := Lib.hid hz0
  have H2 := Lib.hid hz1
  have H3 := Lib.hid hz2
  clear hi hz0 hz1 hz2 hn hn2
  go_enter Tryz.func64, Tryz.ntmps64
  go_wp2_with (go_at_call 94; refine (fold_spec _ _ Hn.out.1 Hn.out.2).mono ?_; rintro e w' ⟨rfl, rfl⟩)
  generalize foldN n = u at *
  go_loopw [3, 4] (fun x v wr => ∃ (z : Nat) (l : List UInt8), x = .int .u64 (z : Int) ∧ z < 18446744073709551616 ∧ l ++ enc z = enc u ∧ Own w.heap.size wr v l ∧ Below w.heap.size w wr) (fun x _ _ => (intOf x).toNat)
  case atStart => exact ⟨u, [], rfl, hf, rfl, World.ownsRow_made _ _ _ (Nat.le_refl _) (by decide) (by simp), (Below.refl _ _).alloc (Nat.le_refl _) _⟩
  case round =>
    obtain ⟨z, l, rfl, hz, he, hown, hb⟩ := hrel
    have hl := len_le he hz hf
    have HE := Lib.hid he
    have HO := Lib.hid hown
    clear he hown
    by_cases hlt : z < 128
    · have Hs := Lib.hid (step_lt HE.out hlt)
      have Hz := Lib.hid (ofNat_toNat (u := z) (by omega))
      go_wp2_with (at_builtin; refine wpList_append_own _ rfl _ _ 102 rfl w.heap.size 5 i0 (.int .u8 0) 1 1 Tryz.underlying102 H0.out H1.out H2.out H3.out rfl (by decide) _ _ _ rfl (World.ownsRow.alloc HO.out _) ⟨wr.heap.size, 0, none⟩ 1 1 [_] rfl rfl (cell_one_new _ _ _) ?c1 ?c2 ?c3 ?c4 ?_)
      case c1 => intro x hx; simp at hx; subst hx; rfl
      case c2 => unfold maxLen; omega
      case c3 => omega
      case c4 => have := hb.size; simp; omega
      · intro v' w1 hown' hgrow _
        have hB := Below.grown (hb.alloc hb.size _) hgrow (by have := hb.size; simp; omega) (fun k hk => (World.ownsRow.lt HO.out k hk).1)
        rw [← Hz.out, one_map] at hown'
        have hl2 : (l ++ [UInt8.ofNat z]).length = l.length + 1 := by simp
        rw [← hl2] at hown'
        have hconv := conv_of_own hown' (by simp)
        rw [Hs.out] at hconv
        have HB := Lib.hid hB
        clear hown' hgrow hB hl2 hb
        go_wp2
        go_ret
        exact ⟨ret_str He.out.symm, HB.out⟩
    · have Hs := Lib.hid (step_ge HE.out hlt)
      have Hz := Lib.hid (ofNat_toNat (u := z % 128 + 128) (by omega))
      go_wp2_with (at_builtin; refine wpList_append_own _ rfl _ _ 102 rfl w.heap.size 5 i0 (.int .u8 0) 1 1 Tryz.underlying102 H0.out H1.out H2.out H3.out rfl (by decide) _ _ _ rfl (World.ownsRow.alloc HO.out _) ⟨wr.heap.size, 0, none⟩ 1 1 [_] rfl rfl (cell_one_new _ _ _) ?c1 ?c2 ?c3 ?c4 ?_)
      case c1 => intro x hx; simp at hx; subst hx; rfl
      case c2 => unfold maxLen; omega
      case c3 => omega
      case c4 => have := hb.size; simp; omega
      · intro v' w1 hown' hgrow _
        have hB := Below.grown (hb.alloc hb.size _) hgrow (by have := hb.size; simp; omega) (fun k hk => (World.ownsRow.lt HO.out k hk).1)
        have e1 : ((z : Int) % 128 + 128) = ((z % 128 + 128 : Nat) : Int) := by omega
        rw [e1, ← Hz.out, one_map] at hown'
        have hl2 : (l ++ [UInt8.ofNat (z % 128 + 128)]).length = l.length + 1 := by simp
        rw [← hl2] at hown'
        have HB := Lib.hid hB
        have HW := Lib.hid hown'
        clear hown' hgrow hB hl2 hb e1
        go_wp2
        go_roundw
        case rel => exact ⟨z / 128, l ++ [UInt8.ofNat (z % 128 + 128)], by go_num, by omega, Hs.out, HW.out, HB.out⟩
        case measure => simp [intOf]; omega
def Row (B : Nat) (wr : World) (l : List UInt8) : Prop :=
  (∀ j, (h : j < l.length) → wr.cell? ⟨B, j, none⟩ = some (.int .u8 (l[j].toNat : Int))) ∧ (∀ j, j < 10 → ∃ v, wr.cell? ⟨B, j, none⟩ = some v) ∧ (∀ j, wr.frozen? ⟨B, j, none⟩ = false)
theorem row_store {B : Nat} {wr : World} {l : List UInt8} (h : Row B wr l) (hl : l.length ≤ 9) (c : UInt8) : Row B (wr.setCell ⟨B, l.length, none⟩ (.int .u8 (c.toNat : Int))) (l ++ [c]) := by
  obtain ⟨h1, h2, h3⟩ := h
  refine ⟨?_, ?_, ?_⟩
  · intro j hj
    by_cases e : j = l.length
    · subst e
      obtain ⟨v, hv⟩ := h2 l.length (by omega)
      rw [World.cell?_setCell_same _ _ _ hv]
      simp
    · have hj2 : j < l.length := by simp at hj; omega
      rw [World.cell?_setCell_other _ _ _ _ (by simp <;> omega), h1 j hj2]
      simp [List.getElem_append_left hj2]
  · intro j hj
    by_cases e : j = l.length
    · subst e
      obtain ⟨v, hv⟩ := h2 l.length (by omega)
      exact ⟨_, World.cell?_setCell_same _ _ _ hv⟩
    · obtain ⟨v, hv⟩ := h2 j hj
      exact ⟨v, by rw [World.cell?_setCell_other _ _ _ _ (by simp <;> omega), hv]⟩
  · intro j
    rw [World.frozen?_setCell]
    exact h3 j
theorem row_new (w : World) : Row w.heap.size (w.alloc (.cells #[.int .u8 0, .int .u8 0, .int .u8 0, .int .u8 0, .int .u8 0, .int .u8 0, .int .u8 0, .int .u8 0, .int .u8 0, .int .u8 0] 145)) [] := by
  refine ⟨fun j h => absurd h (Nat.not_lt_zero _), ?_, ?_⟩
  · intro j hj
    rw [World.cell?_alloc_new]
    match j, hj with
    | 0, _ | 1, _ | 2, _ | 3, _ | 4, _ | 5, _ | 6, _ | 7, _ | 8, _ | 9, _ => exact ⟨_, rfl⟩
  · intro j
    exact World.frozen?_alloc_new _ _ _ _
theorem slice_at (B k : Nat) (hk : k + 1 ≤ 10) (wx : World) : (Instr.sliceAt 145 (.pointer (some ⟨B, 0, none⟩)) none (some (.int .i64 ((k : Int) + 1))) none).run Tryz.prog wx = .ok (.slice (some ⟨B, 0, none⟩) (k + 1) 10) wx := by
  have hu : Tryz.prog.underlying 145 = some (.array (Tryz.prog.arrayLen 145) (Tryz.prog.elem 145)) := by kernel_rfl
  have hl : Tryz.prog.arrayLen 145 = 10 := by kernel_rfl
  have hs : ∀ w, (sizeOf (Tryz.prog.elem 145)).run Tryz.prog w = .ok 1 w := fun _ => by kernel_rfl
  rw [run_sliceAt_array_h wx 145 _ hu .i64 _ (by omega) (by rw [hl]; omega), hs, hl]
  have e : ((k : Int) + 1).toNat = k + 1 := by omega
  rw [e]
  simp only [slicedAt, Result.andThen]
  simp [Addr.add]
theorem conv_row {B : Nat} {wr : World} {l : List UInt8} (h : Row B wr l) (cap : Nat) :
    (convert 102 9 (.slice (some ⟨B, 0, none⟩) l.length cap)).run Tryz.prog wr = .ok (.string (bytesOf l)) wr :=
  run_convert_bytes_back wr 102 9 5 ⟨B, 0, none⟩ cap l Tryz.underlying102 Tryz.underlying5 Tryz.underlying9 (fun j hj => by
    have := h.1 j hj
    cases j <;> simpa [Addr.add] using this)
set_option maxRecDepth 100000 in
set_option maxHeartbeats 800000 in
theorem put_impl (n : Int) (w : World) (hn : -9223372036854775808 ≤ n) (hn2 : n ≤ 9223372036854775807) :
    Calls Tryz.prog 67 #[.int .i64 n] w fun e w' => e = .returned (.string (encB n)) ∧ Below w.heap.size w w' := by
  have hf := foldN_lt hn hn2
  have Hn := Lib.hid (And.intro hn hn2)
  have He : Hid (encB n = bytesOf (enc (foldN n))) := Lib.hid rfl
  clear hn hn2
  go_enter Tryz.func67, Tryz.ntmps67
  go_wp2_with (go_at_call 98; refine (fold_impl _ _ Hn.out.1 Hn.out.2).mono ?_; rintro e w' ⟨rfl, rfl⟩)
  generalize foldN n = u at *
  go_loopw [4, 5] (fun x i wr => ∃ (z : Nat) (l : List UInt8), x = .int .u64 (z : Int) ∧ i = .int .i64 (l.length : Nat) ∧ z < 18446744073709551616 ∧ l ++ enc z = enc u ∧ Row w.heap.size wr l ∧ Below w.heap.size w wr) (fun x _ _ => (intOf x).toNat)
  case atStart => exact ⟨u, [], rfl, rfl, hf, rfl, row_new w, (Below.refl _ _).alloc (Nat.le_refl _) _⟩
  case round =>
    obtain ⟨z, l, rfl, rfl, hz, he, hrow, hb⟩ := hrel
    have hl := len_le he hz hf
    obtain ⟨v0, hv0⟩ := hrow.2.1 l.length (by omega)
    have hfr0 := hrow.2.2 l.length
    have HE := Lib.hid he
    have HR := Lib.hid hrow
    have HB := Lib.hid hb
    clear he hrow hb
    by_cases hlt : z < 128
    · have Hs := Lib.hid (step_lt HE.out hlt)
      have hrow2 := row_store HR.out hl (UInt8.ofNat z)
      rw [ofNat_toNat (by omega)] at hrow2
      have hconv := conv_row hrow2 10
      rw [Hs.out, ← Hs.out] at hconv
      have hsl := slice_at w.heap.size l.length (by omega)
      have hlen : (l ++ [UInt8.ofNat z]).length = l.length + 1 := by simp
      rw [hlen, Hs.out] at hconv
      clear hrow2 hlen
      go_wp2
      go_ret
      exact ⟨ret_str He.out.symm, HB.out.setCell (Nat.le_refl _) _⟩
    · have Hs := Lib.hid (step_ge HE.out hlt)
      have hrow2 := row_store HR.out hl (UInt8.ofNat (z % 128 + 128))
      have Ho := Lib.hid (byte_or z)
      have HR2 := Lib.hid hrow2
      have Hw : Hid (IntKind.u8.wrap (z : Int) = (z : Int) % 256) := Lib.hid (by simp [IntKind.wrap, IntKind.bits, IntKind.signed])
      clear hrow2
      go_wp2
      go_roundw
      case rel => exact ⟨z / 128, l ++ [UInt8.ofNat (z % 128 + 128)], by go_num, by simp, by omega, Hs.out, by rw [← Hw.out, Ho.out]; exact HR2.out, HB.out.setCell (Nat.le_refl _) _⟩
      case measure => simp [intOf]; omega
end Go.Proofs.YtlgflddljhldhaaGreat.PutC
end
section
namespace Go.Proofs.YtlgflddljhldhaaGreat.ShelfC
open Go.Shelf
def Tryz.lays169_ren : Go.Shelf.Ren := ⟨fun | 169 => 69 | n => n, fun | 70 => 101 | 9 => 9 | 0 => 0 | 72 => 104 | 37 => 102 | 127 => 148 | 3 => 3 | 5 => 5 | n => n, fun | n => n⟩
theorem Tryz.lays169 : Go.Proofs.Lays.n169 Tryz.prog Tryz.lays169_ren := {
  mixed := by kernel_rfl
  f169 := Tryz.func69.trans (congrArg some (by kernel_rfl))
  t0 := Tryz.underlying0
  a0 := Tryz.isAgg0
  z0 := Tryz.sizeOf0
  v0 := Tryz.zeroValue0
  t3 := Tryz.underlying3
  a3 := Tryz.isAgg3
  z3 := Tryz.sizeOf3
  v3 := Tryz.zeroValue3
  t9 := Tryz.underlying9
  a9 := Tryz.isAgg9
  z9 := Tryz.sizeOf9
  v9 := Tryz.zeroValue9
  t37 := Tryz.underlying102
  a37 := Tryz.isAgg102
  z37 := Tryz.sizeOf102
  v37 := Tryz.zeroValue102
  t70 := Tryz.underlying101
  a70 := Tryz.isAgg101
  z70 := Tryz.sizeOf101
  v70 := Tryz.zeroValue101
  t72 := Tryz.underlying104
  a72 := Tryz.isAgg104
  z72 := Tryz.sizeOf104
  v72 := Tryz.zeroValue104
  t127 := Tryz.underlying148
  a127 := Tryz.isAgg148
  z127 := Tryz.sizeOf148
  v127 := Tryz.zeroValue148 }
theorem Tryz.Builder_Extra_169 : Builder.Extra Tryz.prog Tryz.lays169_ren := {
  sizeBuilder := by kernel_rfl
  liesBuilder := by kernel_rfl
  t5 := Tryz.underlying5
  a5 := Tryz.isAgg5
  z5 := Tryz.sizeOf5
  v5 := Tryz.zeroValue5
  infoByte := by kernel_rfl
  cellsByte := by kernel_rfl
  sizeByte := by kernel_rfl
  neB5 := by decide }
open Go.RowKit in
theorem Tryz.Builder_String_any (B b : Nat) (l : List UInt8) (w : World) (h : Lib.IsBuilder 104 5 B b (Lib.byteCells l) w) (hBw : B ≤ w.heap.size) :
    Calls Tryz.prog 69 #[.pointer (some ⟨b, 0, none⟩)] w fun e w' => e = .returned (.string ⟨l.toArray⟩) ∧ Below B w w' := Any.Builder_String_any Tryz.lays169 Tryz.Builder_Extra_169 B b l w h hBw
def Tryz.laysSlC25_f136_ren : Go.Shelf.Ren := ⟨fun | 5 => 136 | 7 => 140 | n => n, fun | 22 => 2 | 3 => 3 | 4 => 4 | n => n, fun | n => n⟩
theorem Tryz.laysSlC25_f136 : Go.Proofs.SlLaysC2.n5 Tryz.prog Tryz.laysSlC25_f136_ren := {
  mixed := by kernel_rfl
  f5 := ⟨Tryz.f136.name, by decide, Tryz.func136.trans (congrArg some (by kernel_rfl))⟩
  f7 := ⟨Tryz.f140.name, by decide, Tryz.func140.trans (congrArg some (by kernel_rfl))⟩
  t3 := Tryz.underlying3
  a3 := Tryz.isAgg3
  z3 := Tryz.sizeOf3
  v3 := Tryz.zeroValue3
  t4 := Tryz.underlying4
  a4 := Tryz.isAgg4
  z4 := Tryz.sizeOf4
  v4 := Tryz.zeroValue4
  t22 := Tryz.underlying2
  a22 := Tryz.isAgg2
  z22 := Tryz.sizeOf2
  v22 := Tryz.zeroValue2 }
open Go.Lib in
theorem Tryz.cmp_Compare_int (x y : Int) (w : World) :
    Calls Tryz.prog 136 #[.int .i64 x, .int .i64 y] w fun e w' => e = .returned (.int .i64 (Lib.compareInt x y)) ∧ w' = w := AnyG.cmp_Compare_int Tryz.laysSlC25_f136 x y w
end Go.Proofs.YtlgflddljhldhaaGreat.ShelfC
end
