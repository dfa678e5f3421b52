/- The law on drawn seals. -/
import Derived.Test.YtnmdfkempkaonaaSealDraws
import Derived.Lib.ConvBytes
import Derived.IntWalk
import Derived.Deep.RegionWith
namespace Go.Proofs.Ytnmdfkempkaonaa.SealD
open Go.RowKit PutM CrcC SealC DrawC SealM

/-- []byte(s) -/
theorem str_bytes (s : ByteArray) (w : World) : ∃ cap w1, (convert 9 22 (.string s)).run Try.prog w = .ok (.slice (some ⟨w.heap.size, 0, none⟩) s.size cap) w1 ∧
    (∀ j, j < s.size → w1.cell? ⟨w.heap.size, j, none⟩ = some (.int .u8 ((s.data.toList.getD j 0).toNat : Int))) ∧ (∀ j, j < s.size → w1.frozen? ⟨w.heap.size, j, none⟩ = false) ∧ Below w.heap.size w w1 ∧ w.heap.size < w1.heap.size := by
  refine ⟨_, _, Lib.run_convert_string_bytes w 9 22 5 s Try.underlying9 Try.underlying22 Try.underlying5, fun j hj => Lib.bytesWorld_cell w _ s j hj, fun j hj => ?_, ⟨rfl, rfl, rfl, by rw [Lib.bytesWorld_size]; omega, fun k hk => Lib.bytesWorld_at_old w _ s k hk⟩, by rw [Lib.bytesWorld_size]; omega⟩
  have hle : s.size ≤ (Lib.bytesCells w 5 s).size := by simp [Lib.bytesCells]
  simp only [World.frozen?, Lib.bytesWorld_at_new]
  simp
  omega
theorem at_one (b : Option Addr) (len cap : Nat) (w : World) (hl : len ≤ 1048576) (h : Reads w b len) :
    Calls Try.prog 9 #[.slice b len cap, .int .i64 1, .int .i64 255] w (LwAt 255 w) := at_any b len cap 1 255 w h hl (by omega) (by omega)
/-- one byte, turned by a number that is not 0 -/
theorem turn_byte (c : UInt8) {v : Int} (h0 : 0 ≤ v) (h1 : v < 255) : ∃ x : UInt8, bits .xor .u8 (c.toNat : Int) (IntKind.u8.wrap (1 + v)) = (x.toNat : Int) ∧ x ≠ c := by
  have hv : IntKind.u8.wrap (1 + v) = (((1 + v).toNat : Nat) : Int) := by
    simp only [IntKind.wrap, IntKind.bits, IntKind.signed]
    simp
    omega
  rw [hv]
  have hc := c.toNat_lt
  have hx : c.toNat ^^^ (1 + v).toNat < 256 := Nat.xor_lt_two_pow (n := 8) (by omega) (by omega)
  refine ⟨UInt8.ofNat (c.toNat ^^^ (1 + v).toNat), ?_, fun e => ?_⟩
  · have b8 : ∀ x : Nat, x < 256 → (BitVec.ofInt 8 (x : Int)).toNat = x := fun x h => by
      rw [BitVec.ofInt_natCast, BitVec.toNat_ofNat]; exact Nat.mod_eq_of_lt (by omega)
    show IntKind.u8.wrap ((BitVec.ofInt 8 (c.toNat : Int) ^^^ BitVec.ofInt 8 (((1 + v).toNat : Nat) : Int)).toNat : Int) = _
    rw [BitVec.toNat_xor, b8 _ (by omega), b8 _ (by omega), UInt8.toNat_ofNat']
    simp only [IntKind.wrap, IntKind.bits, IntKind.signed]
    simp
  · have h2 := congrArg UInt8.toNat e
    rw [UInt8.toNat_ofNat', Nat.mod_eq_of_lt (by omega)] at h2
    have h3 := congrArg (c.toNat ^^^ ·) h2
    simp only [Nat.xor_self, ← Nat.xor_assoc] at h3
    simp at h3
    omega

theorem field_code (a b c : Value) (w : World) : (Instr.field 27 (.agg #[a, b, c]) 2).run Try.prog w = .ok c w := by kernel_rfl
/-- a row of bytes at block g -/
def RowAt (w : World) (g : Nat) (l : List UInt8) : Prop := ∀ j, j < l.length → w.cell? ⟨g, j, none⟩ = some (.int .u8 ((l.getD j 0).toNat : Int))
theorem RowAt.below {w w' : World} {g : Nat} {l : List UInt8} (h : RowAt w g l) (hb : Below w.heap.size w w') (hg : g < w.heap.size) : RowAt w' g l :=
  fun j hj => (hb.cell (p := ⟨g, j, none⟩) hg).trans (h j hj)
theorem RowAt.store {w : World} {g k : Nat} {l : List UInt8} (h : RowAt w g l) (hk : k < l.length) (x : UInt8) : RowAt ((w.setCell ⟨g, k, none⟩ (.int .u8 (x.toNat : Int))).drew) g (l.set k x) := by
  intro j hj
  rw [List.length_set] at hj
  have hc := h j hj
  by_cases e : j = k
  · subst e
    simp [go_sem, hc, hj]
  · have hne : (⟨g, k, none⟩ : Addr) ≠ ⟨g, j, none⟩ := fun h => e (Addr.mk.inj h).2.1.symm
    have : ((w.setCell ⟨g, k, none⟩ (.int .u8 (x.toNat : Int))).drew).cell? ⟨g, j, none⟩ = w.cell? ⟨g, j, none⟩ := by
      exact World.cell?_setCell_other _ _ _ _ hne
    rw [this, hc]
    simp [List.getD, Ne.symm e]
theorem RowAt.conv {w : World} {g : Nat} {l : List UInt8} (h : RowAt w g l) (cap : Nat) :
    (convert 22 9 (.slice (some ⟨g, 0, none⟩) l.length cap)).run Try.prog w = .ok (.string (PutM.bytesOf l)) w :=
  run_convert_bytes_back w 22 9 5 ⟨g, 0, none⟩ cap l Try.underlying22 Try.underlying5 Try.underlying9 (fun j hj => by
    have e : (⟨g, 0, none⟩ : Addr).add j = ⟨g, j, none⟩ := by cases j <;> simp [Addr.add]
    rw [e, h j hj]
    simp [List.getD, hj])

set_option maxRecDepth 100000 in
set_option maxHeartbeats 1000000 in
theorem law_sealed (b0 : Option Addr) (n0 c0 : Nat) (b1 : Option Addr) (n1 c1 : Nat) (w : World) (h0 : CodeIn w b0 n0) (h1 : CodeIn w b1 n1) (l0 : n0 ≤ maxLen) (l1 : n1 ≤ maxLen) :
    Calls Try.prog 3 #[.slice b0 n0 c0, .slice b1 n1 c1] w fun e w' => e = .returned (.bool true) ∧ Below w.heap.size w w' := by
  unfold maxLen at l0 l1
  have HC0 := Lib.hid h0
  have HC1 := Lib.hid h1
  clear h0 h1
  by_cases k0 : n0 ≤ 1048576
  · by_cases k1 : n1 ≤ 1048576
    · go_enter Try.func3, Try.ntmps3
      go_wp2_with fail
      refine (draw_seal b0 n0 c0 _ k0 HC0.out).mono ?_
      rintro e w1 ⟨t, rfl, ht, hb⟩
      have HB := Lib.hid hb
      clear hb
      go_wp2_with fail
      refine (seal_impl t _ (by unfold maxLen; omega)).mono ?_
      rintro e w2 ⟨rfl, hb⟩
      have HB2 := Lib.hid (HB.out.trans (hb.mono HB.out.size))
      clear hb
      go_wp2_with fail
      refine (seal_spec t _ (by unfold maxLen; omega)).mono ?_
      rintro e w3 ⟨rfl, hb⟩
      have HB3 := Lib.hid (HB2.out.trans (hb.mono HB2.out.size))
      clear hb
      by_cases hz : t.size ≤ 7996
      · have hs : Hid (sealOf t = t ++ fourS (crcOf t 0)) := Lib.hid (seal_in hz)
        have hl : (sealOf t).data.toList = t.data.toList ++ tag t := by rw [hs.out]; simp [fourS, tag, PutM.bytesOf]
        have hsz : (sealOf t).size = t.size + 4 := by rw [hs.out]; simp [fourS_size]
        have HU : Hid (unsealV (sealOf t) = outV t 0 0) := Lib.hid (by rw [hs.out]; exact unseal_whole hz)
        have HL := Lib.hid hl
        have hne1 : (sealOf t).toList.isEmpty = false := by rw [toList_data, hl]; simp [tag, fourL]
        have hs8 : (sealOf t).size ≤ 8000 ∧ 4 ≤ (sealOf t).size := by omega
        obtain ⟨hs8, hs4⟩ := hs8
        have HSZ := Lib.hid hsz
        clear hl hsz
        generalize sealOf t = s at *
        obtain ⟨cap, w4, hcv, hcells, hsoft, hb, hgs⟩ := str_bytes s w3
        have HB4 := Lib.hid (HB3.out.trans (hb.mono HB3.out.size))
        clear hb
        have HR : Hid (CodeIn w4 b1 n1) := Lib.hid (CodeIn.below HC1.out HB4.out)
        go_wp2_with fail
        refine (at_any b1 n1 c1 0 _ _ (Reads.of HR.out) k1 (by omega) (by omega)).mono ?_
        rintro e w5 ⟨v, rfl, v0, v1, rfl⟩
        obtain ⟨k, rfl⟩ := Int.eq_ofNat_of_zero_le v0
        have hk : k < s.size := by omega
        have hck := hcells k hk
        have hfk := hsoft k hk
        have HCE : Hid (RowAt w4 w3.heap.size s.data.toList) := Lib.hid (fun j hj => hcells j (by simpa using hj))
        have HI := Lib.hid (fun w => HU.out ▸ unseal_impl s w (by unfold maxLen; omega))
        clear hcells hsoft
        generalize hc : s.data.toList.getD k 0 = c at *
        have HCK := Lib.hid hc
        clear hc
        go_wp2
        go_region_with (go_at_call 9; refine (at_one b1 n1 c1 _ k1 ?_).mono ?_; exact Reads.of HR.out; rintro e w5 ⟨v, rfl, v0, v1, rfl⟩; have HV : Hid (0 ≤ v ∧ v < 255) := Lib.hid ⟨v0, by omega⟩; clear v0 v1)
        all_goals
          have hw1 : IntKind.i64.wrap (1 + v) = 1 + v := IntWalk.i64_in _ (by have := HV.out; omega)
          rw [hw1]
          obtain ⟨x, hx, hxc⟩ := turn_byte c HV.out.1 HV.out.2
          rw [hx]
          have hsl : s.data.toList.length = s.size := by simp
          have hrow := HCE.out.store (k := k) (by omega) x
          have hb5 : Below w.heap.size w ((w4.setCell ⟨w3.heap.size, k, none⟩ (.int .u8 (x.toNat : Int))).drew) := (HB4.out.setCell HB3.out.size _).drew
          have hg5 : w3.heap.size < ((w4.setCell ⟨w3.heap.size, k, none⟩ (.int .u8 (x.toNat : Int))).drew).heap.size := by simpa [World.setCell] using hgs
          have HT : Hid (unsealV (PutM.bytesOf (s.data.toList.set k x)) = outV { data := #[] } 0 5) := Lib.hid (by
            refine unseal_turned hz (k := k) (x := x) (by rw [of_list, HL.out]) (by rw [← HSZ.out]; exact hk) ?_
            rw [← HL.out]
            intro e
            apply hxc
            have := HCK.out
            rw [List.getD, e] at this
            simpa using this)
          have HROW := Lib.hid hrow
          have HB5 := Lib.hid hb5
          have HG5 := Lib.hid hg5
          clear hw1 hx hrow hb5 hg5 hck hfk
          generalize (w4.setCell ⟨w3.heap.size, k, none⟩ (.int .u8 (x.toNat : Int))).drew = w5 at *
        all_goals
          go_wp2_with fail
          refine (HI.out _).mono ?_
          unfold outV
          rintro e w6 ⟨rfl, hb⟩
          have HB6 := Lib.hid (HB5.out.trans (hb.mono HB5.out.size))
          have hconv := (HROW.out.below hb HG5.out).conv cap
          rw [List.length_set, hsl] at hconv
          have hts : (PutM.bytesOf (s.data.toList.set k x)).size ≤ maxLen := by unfold maxLen; rw [size_list, of_list, List.length_set]; omega
          have HI2 := Lib.hid (fun w => HT.out ▸ unseal_impl (PutM.bytesOf (s.data.toList.set k x)) w hts)
          clear hb HROW HG5 HCE hts
          generalize PutM.bytesOf (s.data.toList.set k x) = t2 at *
          go_wp2_with fail
          refine (HI2.out _).mono ?_
          unfold outV
          rintro e w7 ⟨rfl, hb⟩
          have HB7 := Lib.hid (HB6.out.trans (hb.mono HB6.out.size))
          clear hb hconv HI HI2 hsl
          have hfield := field_code (.string { data := #[] }) (.int .i64 0) (.int .i64 5)
          go_wp2_with fail
          refine (draw_crc b1 n1 c1 _ k1 (CodeIn.below HC1.out HB7.out)).mono ?_
          rintro e w8 ⟨crc, u, rfl, hu, hb⟩
          have HB8 := Lib.hid (HB7.out.trans (hb.mono HB7.out.size))
          clear hb
          by_cases hlen : t.size + u.size ≤ 8000
          · have hadd := fun w : World => run_string_add_sum (P := Try.prog) w t u (by omega)
            have H1 : Hid (moreOf t 0 = crcOf t 0) := Lib.hid (more_in (by omega) (by omega) (by omega))
            have H2 : Hid (moreOf (t ++ u) 0 = crcOf (t ++ u) 0) := Lib.hid (more_in (by simp; omega) (by omega) (by omega))
            have H3 : Hid (moreOf u (crcOf t 0) = crcOf (t ++ u) 0) := Lib.hid (by rw [more_in (by omega) (crcOf_bd t 0).1 (crcOf_bd t 0).2, crc_join])
            go_wp2_with fail
            refine (more_impl crc u _ (by unfold maxLen; omega)).mono ?_
            rintro e w9 ⟨rfl, rfl⟩
            go_wp2_with fail
            refine (more_spec crc u _ (by unfold maxLen; omega)).mono ?_
            rintro e w9 ⟨rfl, rfl⟩
            go_wp2_with fail
            refine (crc_impl t _ (by unfold maxLen; omega)).mono ?_
            rw [H1.out]
            rintro e w9 ⟨rfl, rfl⟩
            go_wp2_with fail
            refine (more_impl (crcOf t 0) u _ (by unfold maxLen; omega)).mono ?_
            rw [H3.out]
            rintro e w9 ⟨rfl, rfl⟩
            go_wp2_with fail
            refine (crc_impl (t ++ u) _ (by unfold maxLen; simp; omega)).mono ?_
            rw [H2.out]
            rintro e w9 ⟨rfl, rfl⟩
            go_wp2
            go_ret
            exact ⟨rfl, HB8.out⟩
          · go_wp2
            go_ret
            exact ⟨rfl, HB8.out⟩
      · have hs : Hid (sealOf t = ByteArray.empty) := Lib.hid (seal_out hz)
        rw [hs.out]
        go_wp2_with fail
        refine (draw_crc b1 n1 c1 _ k1 (CodeIn.below HC1.out HB3.out)).mono ?_
        rintro e w8 ⟨crc, u, rfl, hu, hb⟩
        have HB8 := Lib.hid (HB3.out.trans (hb.mono HB3.out.size))
        clear hb
        by_cases hlen : t.size + u.size ≤ 8000
        · have hadd := fun w : World => run_string_add_sum (P := Try.prog) w t u (by omega)
          have H1 : Hid (moreOf t 0 = crcOf t 0) := Lib.hid (more_in (by omega) (by omega) (by omega))
          have H2 : Hid (moreOf (t ++ u) 0 = crcOf (t ++ u) 0) := Lib.hid (more_in (by simp; omega) (by omega) (by omega))
          have H3 : Hid (moreOf u (crcOf t 0) = crcOf (t ++ u) 0) := Lib.hid (by rw [more_in (by omega) (crcOf_bd t 0).1 (crcOf_bd t 0).2, crc_join])
          go_wp2_with fail
          refine (more_impl crc u _ (by unfold maxLen; omega)).mono ?_
          rintro e w9 ⟨rfl, rfl⟩
          go_wp2_with fail
          refine (more_spec crc u _ (by unfold maxLen; omega)).mono ?_
          rintro e w9 ⟨rfl, rfl⟩
          go_wp2_with fail
          refine (crc_impl t _ (by unfold maxLen; omega)).mono ?_
          rw [H1.out]
          rintro e w9 ⟨rfl, rfl⟩
          go_wp2_with fail
          refine (more_impl (crcOf t 0) u _ (by unfold maxLen; omega)).mono ?_
          rw [H3.out]
          rintro e w9 ⟨rfl, rfl⟩
          go_wp2_with fail
          refine (crc_impl (t ++ u) _ (by unfold maxLen; simp; omega)).mono ?_
          rw [H2.out]
          rintro e w9 ⟨rfl, rfl⟩
          go_wp2
          go_ret
          exact ⟨rfl, HB8.out⟩
        · go_wp2
          go_ret
          exact ⟨rfl, HB8.out⟩
    · go_enter Try.func3, Try.ntmps3
      go_wp2
      go_ret
      exact ⟨rfl, Below.refl _ _⟩
  · go_enter Try.func3, Try.ntmps3
    go_wp2
    go_ret
    exact ⟨rfl, Below.refl _ _⟩
end Go.Proofs.Ytnmdfkempkaonaa.SealD
