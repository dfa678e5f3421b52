/- What the law on seals draws: DrawSeal, DrawCrcMore; lwAt. -/
import Derived.Test.YtnmdfkempkaonaaSealMath
import Derived.Test.YtnmdfkempkaonaaDraws
import Derived.Deep.OwnRows
namespace Go.Proofs.Ytnmdfkempkaonaa.SealD
open Go.RowKit PutM CrcC SealC DrawC

theorem zero_str (w : World) (n : Int) (h0 : 0 ≤ n) (h1 : n ≤ 1000000) :
    ∃ w1, (Instr.makeSlice 22 (.int .i64 n) (.int .i64 n)).run Try.prog w = .ok (.slice (some ⟨w.heap.size, 0, none⟩) n.toNat n.toNat) w1 ∧
      (convert 22 9 (.slice (some ⟨w.heap.size, 0, none⟩) n.toNat n.toNat)).run Try.prog w1 = .ok (.string (PutM.bytesOf (List.replicate n.toNat 0))) w1 ∧ Below w.heap.size w w1 := by
  obtain ⟨i, hi, hz0, hz1, hz2⟩ := info_parts DrawC.info_u8
  refine ⟨_, run_make w 22 5 i _ Try.underlying22 hi hz0 .i64 .i64 n n h0 (Int.le_refl _) (by rw [hz2]; omega) (by omega), ?_, (Below.refl _ _).alloc (Nat.le_refl _) _⟩
  have hc := run_convert_bytes_back (P := Try.prog) (w.alloc (.cells (madeCells (Value.int .u8 0).cells (n.toNat * i.size)) 5)) 22 9 5 ⟨w.heap.size, 0, none⟩ n.toNat (List.replicate n.toNat 0) Try.underlying22 Try.underlying5 Try.underlying9 (fun j hj => by
    rw [List.length_replicate] at hj
    have e : (⟨w.heap.size, 0, none⟩ : Addr).add j = ⟨w.heap.size, j, none⟩ := by cases j <;> simp [Addr.add]
    rw [e, World.cell?_alloc_new, hz1]
    simp [madeCells, hj, Value.cells, Nat.mod_one])
  rwa [List.length_replicate] at hc

/-- what a drawn text is -/
def TextIn (most : Nat) (w : World) (e : Ending) (w' : World) : Prop := ∃ t : ByteArray, e = .returned (.string t) ∧ t.size ≤ most ∧ Below w.heap.size w w'
set_option maxRecDepth 100000 in
theorem draw_seal (b : Option Addr) (len cap : Nat) (w : World) (hl : len ≤ 1048576) (h : CodeIn w b len) :
    Calls Try.prog 6 #[.slice b len cap] w (TextIn 20000 w) := by
  have HC := Lib.hid h
  clear h
  go_enter Try.func6, Try.ntmps6
  go_wp2_with fail
  refine (source_any b len cap _ hl HC.out).mono ?_
  rintro e w1 ⟨rfl, hs, hb⟩
  have HB := Lib.hid hb
  clear hb
  go_wp2_with fail
  refine (one_any _ b len cap _ _ hs (by omega)).mono ?_
  clear hs
  rintro e w2 ⟨v, rfl, hs, hb⟩
  have HB2 := Lib.hid (HB.out.trans (hb.below HB.out.size (Nat.le_refl _)))
  clear hb
  cases v with
  | true =>
    go_wp2_with fail
    refine (n_any _ b len cap _ _ hs (by omega)).mono ?_
    rintro e w3 ⟨v, rfl, v0, v1, _, hb⟩
    have HB3 := Lib.hid (HB2.out.trans (hb.below HB2.out.size (Nat.le_refl _)))
    clear hb hs
    obtain ⟨w4, hmk, hcv, hb4⟩ := zero_str w3 (19995 + v) (by omega) (by omega)
    have HB4 := Lib.hid (HB3.out.trans (hb4.mono HB3.out.size))
    have HZ : Hid ((PutM.bytesOf (List.replicate (19995 + v).toNat 0)).size ≤ 20000) := Lib.hid (by simp [PutM.bytesOf, ByteArray.size]; omega)
    clear hb4
    go_wp2
    go_ret
    unfold TextIn
    exact ⟨_, rfl, HZ.out, HB4.out⟩
  | false =>
    go_wp2_with fail
    refine (n_any _ b len cap _ _ hs (by omega)).mono ?_
    clear hs
    rintro e w3 ⟨v, rfl, v0, v1, hs, hb⟩
    have HB3 := Lib.hid (HB2.out.trans (hb.below HB2.out.size (Nat.le_refl _)))
    clear hb
    go_wp2_with fail
    refine (bytes_any _ b len cap _ _ hs v0 (by omega)).mono ?_
    rintro e w4 ⟨t, rfl, ht, _, hb⟩
    have HB4 := Lib.hid (HB3.out.trans (hb.below HB3.out.size (Nat.le_refl _)))
    have HZ : Hid (t.size ≤ 20000) := Lib.hid (by omega)
    clear hb hs ht
    go_wp2
    go_ret
    unfold TextIn
    exact ⟨_, rfl, HZ.out, HB4.out⟩

/-- a drawn number and text -/
def CrcIn (w : World) (e : Ending) (w' : World) : Prop := ∃ (c : Int) (t : ByteArray), e = .returned (.tuple #[.int .i64 c, .string t]) ∧ t.size ≤ 9 ∧ Below w.heap.size w w'
set_option maxRecDepth 100000 in
theorem draw_crc (b : Option Addr) (len cap : Nat) (w : World) (hl : len ≤ 1048576) (h : CodeIn w b len) :
    Calls Try.prog 11 #[.slice b len cap] w (CrcIn w) := by
  have HC := Lib.hid h
  clear h
  go_enter Try.func11, Try.ntmps11
  go_wp2_with fail
  refine (source_any b len cap _ hl HC.out).mono ?_
  rintro e w1 ⟨rfl, hs, hb⟩
  have HB := Lib.hid hb
  clear hb
  go_wp2_with fail
  refine (n_any _ b len cap _ _ hs (by omega)).mono ?_
  clear hs
  rintro e w2 ⟨v, rfl, v0, v1, hs, hb⟩
  have HB2 := Lib.hid (HB.out.trans (hb.below HB.out.size (Nat.le_refl _)))
  clear hb
  go_wp2_with fail
  refine (bytes_any _ b len cap _ _ hs v0 (by omega)).mono ?_
  clear hs
  rintro e w3 ⟨t, rfl, ht, hs, hb⟩
  have HB3 := Lib.hid (HB2.out.trans (hb.below HB2.out.size (Nat.le_refl _)))
  have HZ : Hid (t.size ≤ 9) := Lib.hid (by omega)
  clear hb ht
  go_wp2_with fail
  refine (one_any _ b len cap _ _ hs (by omega)).mono ?_
  clear hs
  rintro e w4 ⟨v, rfl, hs, hb⟩
  have HB4 := Lib.hid (HB3.out.trans (hb.below HB3.out.size (Nat.le_refl _)))
  clear hb
  cases v with
  | true =>
    go_wp2_with fail
    refine (edge_any _ b len cap _ hs).mono ?_
    rintro e w5 ⟨v, rfl, _, _, _, hb⟩
    have HB5 := Lib.hid (HB4.out.trans (hb.below HB4.out.size (Nat.le_refl _)))
    clear hb hs
    go_wp2
    go_ret2
    unfold CrcIn
    exact ⟨_, _, rfl, HZ.out, HB5.out⟩
  | false =>
    go_wp2_with fail
    refine (n_any _ b len cap _ _ hs (by omega)).mono ?_
    clear hs
    rintro e w5 ⟨v, rfl, v0, v1, hs, hb⟩
    have HB5 := Lib.hid (HB4.out.trans (hb.below HB4.out.size (Nat.le_refl _)))
    clear hb
    go_wp2_with fail
    refine (bytes_any _ b len cap _ _ hs v0 (by omega)).mono ?_
    clear hs
    rintro e w6 ⟨u, rfl, hu, _, hb⟩
    have HB6 := Lib.hid (HB5.out.trans (hb.below HB5.out.size (Nat.le_refl _)))
    clear hb
    go_wp2_with fail
    refine (crc_spec u _ (by unfold maxLen; omega)).mono ?_
    rintro e w7 ⟨rfl, rfl⟩
    clear hu
    go_wp2
    go_ret2
    unfold CrcIn
    exact ⟨_, _, rfl, HZ.out, HB6.out⟩
end Go.Proofs.Ytnmdfkempkaonaa.SealD
