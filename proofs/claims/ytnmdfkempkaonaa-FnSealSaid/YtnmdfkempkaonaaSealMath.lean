/- Plain facts on the CRC: two texts that differ in one byte have two CRCs; a CRC goes on from text to text; the four bytes of a number tell it. -/
import Derived.Test.YtnmdfkempkaonaaUnseal
namespace Go.Proofs.Ytnmdfkempkaonaa.SealM
open Go.RowKit PutM CrcC SealC

theorem bv32 {x : Nat} (h : x < 4294967296) : (BitVec.ofInt 32 (x : Int)).toNat = x := by
  rw [BitVec.ofInt_natCast, BitVec.toNat_ofNat]; exact Nat.mod_eq_of_lt (by omega)
theorem wrap32u (x : Int) : IntKind.u32.wrap x = x % 4294967296 := by simp [IntKind.wrap, IntKind.bits, IntKind.signed]
theorem xor32 {a b : Nat} (ha : a < 4294967296) (hb : b < 4294967296) : bits .xor .u32 (a : Int) (b : Int) = ((a ^^^ b : Nat) : Int) := by
  have hx : a ^^^ b < 2 ^ 32 := Nat.xor_lt_two_pow (by omega) (by omega)
  show IntKind.u32.wrap ((BitVec.ofInt 32 (a : Int) ^^^ BitVec.ofInt 32 (b : Int)).toNat : Int) = _
  rw [BitVec.toNat_xor, bv32 ha, bv32 hb, wrap32u]
  omega
theorem and32 {a : Nat} (ha : a < 4294967296) : bits .and .u32 (a : Int) 1 = ((a % 2 : Nat) : Int) := by
  show IntKind.u32.wrap ((BitVec.ofInt 32 (a : Int) &&& BitVec.ofInt 32 1).toNat : Int) = _
  rw [BitVec.toNat_and, bv32 ha, show (BitVec.ofInt 32 1).toNat = 1 by decide, Nat.and_one_is_mod, wrap32u]
  omega
theorem xor_lt {a b : Nat} (ha : a < 4294967296) (hb : b < 4294967296) : a ^^^ b < 4294967296 := Nat.xor_lt_two_pow (n := 32) ha hb
theorem xor_right {a b c : Nat} (h : a ^^^ c = b ^^^ c) : a = b := by
  have := congrArg (· ^^^ c) h
  simpa [Nat.xor_assoc] using this
theorem xor_left {a b c : Nat} (h : c ^^^ a = c ^^^ b) : a = b := by
  rw [Nat.xor_comm c a, Nat.xor_comm c b] at h
  exact xor_right h

/-- one step on naturals -/
def oneN (z : Nat) : Nat := if z % 2 = 1 then (z / 2) ^^^ 3988292384 else z / 2
theorem one_nat {z : Nat} (h : z < 4294967296) : one (z : Int) = (oneN z : Int) := by
  unfold one oneN
  rw [and32 h, show ((z : Int) / 2) = ((z / 2 : Nat) : Int) by omega]
  by_cases h1 : z % 2 = 1
  · rw [h1, if_pos (by decide), if_pos rfl]
    exact xor32 (b := 3988292384) (by omega) (by omega)
  · rw [if_neg h1, if_neg (by simp; omega)]
theorem oneN_lt {z : Nat} (h : z < 4294967296) : oneN z < 4294967296 := by
  unfold oneN
  split
  · exact xor_lt (by omega) (by omega)
  · omega
theorem top_low {z : Nat} (h : z < 4294967296) : (z / 2).testBit 31 = false := Nat.testBit_lt_two_pow (by omega)
theorem top_high {z : Nat} (h : z < 4294967296) : ((z / 2) ^^^ 3988292384).testBit 31 = true := by
  rw [Nat.testBit_xor, top_low h]; decide
theorem oneN_inj {a b : Nat} (ha : a < 4294967296) (hb : b < 4294967296) (h : oneN a = oneN b) : a = b := by
  unfold oneN at h
  by_cases h1 : a % 2 = 1 <;> by_cases h2 : b % 2 = 1
  · rw [if_pos h1, if_pos h2] at h
    have := xor_right h
    omega
  · rw [if_pos h1, if_neg h2] at h
    have := top_high ha
    rw [h, top_low hb] at this
    cases this
  · rw [if_neg h1, if_pos h2] at h
    have := top_high hb
    rw [← h, top_low ha] at this
    cases this
  · rw [if_neg h1, if_neg h2] at h
    omega
theorem one_inj {a b : Int} (ha : 0 ≤ a ∧ a < 4294967296) (hb : 0 ≤ b ∧ b < 4294967296) (h : one a = one b) : a = b := by
  obtain ⟨m, rfl⟩ := Int.eq_ofNat_of_zero_le ha.1
  obtain ⟨n, rfl⟩ := Int.eq_ofNat_of_zero_le hb.1
  rw [one_nat (by omega), one_nat (by omega)] at h
  have := oneN_inj (a := m) (b := n) (by omega) (by omega) (by omega)
  omega
theorem ones_inj : ∀ (n : Nat) {a b : Int}, 0 ≤ a ∧ a < 4294967296 → 0 ≤ b ∧ b < 4294967296 → ones n a = ones n b → a = b
  | 0, _, _, _, _, h => h
  | n + 1, _, _, ha, hb, h => ones_inj n ha hb (one_inj (ones_bd ha n) (ones_bd hb n) h)
theorem xor_inj_l {a b c : Int} (ha : 0 ≤ a ∧ a < 4294967296) (hb : 0 ≤ b ∧ b < 4294967296) (hc : 0 ≤ c ∧ c < 4294967296) (h : bits .xor .u32 a c = bits .xor .u32 b c) : a = b := by
  obtain ⟨m, rfl⟩ := Int.eq_ofNat_of_zero_le ha.1
  obtain ⟨n, rfl⟩ := Int.eq_ofNat_of_zero_le hb.1
  obtain ⟨k, rfl⟩ := Int.eq_ofNat_of_zero_le hc.1
  rw [xor32 (by omega) (by omega), xor32 (by omega) (by omega)] at h
  have := xor_right (a := m) (b := n) (c := k) (by omega)
  omega
theorem step_inj_r {r r' c : Int} (hr : 0 ≤ r ∧ r < 4294967296) (hr' : 0 ≤ r' ∧ r' < 4294967296) (hc : 0 ≤ c ∧ c < 4294967296) (h : byteStep r c = byteStep r' c) : r = r' :=
  xor_inj_l hr hr' hc (ones_inj 8 (bx _ _) (bx _ _) h)
theorem step_inj_c {r c c' : Int} (hr : 0 ≤ r ∧ r < 4294967296) (hc : 0 ≤ c ∧ c < 4294967296) (hc' : 0 ≤ c' ∧ c' < 4294967296) (h : byteStep r c = byteStep r c') : c = c' := by
  have h2 := ones_inj 8 (bx _ _) (bx _ _) h
  rw [bits_swap .u32 r c, bits_swap .u32 r c'] at h2
  exact xor_inj_l hc hc' hr h2
def fold (l : List UInt8) (r : Int) : Int := l.foldl (fun a b => byteStep a (b.toNat : Int)) r
theorem fold_bd' (l : List UInt8) {r : Int} (h : 0 ≤ r ∧ r < 4294967296) : 0 ≤ fold l r ∧ fold l r < 4294967296 := fold_bd l r h
theorem byte32 (b : UInt8) : 0 ≤ (b.toNat : Int) ∧ (b.toNat : Int) < 4294967296 := ⟨by omega, by have := b.toNat_lt; omega⟩
theorem fold_inj : ∀ (l : List UInt8) {r r' : Int}, 0 ≤ r ∧ r < 4294967296 → 0 ≤ r' ∧ r' < 4294967296 → fold l r = fold l r' → r = r'
  | [], _, _, _, _, h => h
  | b :: l, _, _, hr, hr', h => step_inj_r hr hr' (byte32 b) (fold_inj l (byte_bd _ _) (byte_bd _ _) h)
theorem flip_inj {a b : Int} (ha : 0 ≤ a ∧ a < 4294967296) (hb : 0 ≤ b ∧ b < 4294967296) (h : flip a = flip b) : a = b :=
  xor_inj_l ha hb ⟨by omega, by omega⟩ h
theorem flip_flip {a : Int} (ha : 0 ≤ a ∧ a < 4294967296) : flip (flip a) = a := by
  obtain ⟨m, rfl⟩ := Int.eq_ofNat_of_zero_le ha.1
  unfold CrcC.flip
  rw [show (4294967295 : Int) = ((4294967295 : Nat) : Int) by rfl, xor32 (by omega) (by omega), xor32 (xor_lt (by omega) (by omega)) (by omega), Nat.xor_assoc]
  simp
theorem crcOf_fold (s : ByteArray) (r : Int) : crcOf s r = flip (fold s.data.toList (flip r)) := by
  unfold crcOf crcTo fold
  rw [List.take_of_length_le (by simp)]
theorem crc_join (t u : ByteArray) : crcOf u (crcOf t 0) = crcOf (t ++ u) 0 := by
  rw [crcOf_fold, crcOf_fold, crcOf_fold, flip_flip (fold_bd' _ (flip_bd _))]
  have e : (t ++ u).data.toList = t.data.toList ++ u.data.toList := by simp
  rw [e]
  unfold fold
  rw [List.foldl_append]
/-- one byte turned: another CRC -/
theorem crc_apart {s : ByteArray} {l1 l2 : List UInt8} {a b : UInt8} (hs : s.data.toList = l1 ++ a :: l2) (hab : a ≠ b) {s' : ByteArray} (hs' : s'.data.toList = l1 ++ b :: l2) : crcOf s 0 ≠ crcOf s' 0 := by
  intro h
  rw [crcOf_fold, crcOf_fold, hs, hs'] at h
  have h2 := flip_inj (fold_bd _ _ (flip_bd _)) (fold_bd _ _ (flip_bd _)) h
  unfold fold at h2
  rw [List.foldl_append, List.foldl_append] at h2
  have hb := fold_bd l1 (flip 0) (flip_bd _)
  have h3 := fold_inj l2 (byte_bd _ _) (byte_bd _ _) h2
  have h4 := step_inj_c hb (byte32 a) (byte32 b) h3
  exact hab (UInt8.toNat_inj.1 (by omega))
theorem four_inj {a b : Int} (ha : 0 ≤ a ∧ a ≤ 4294967295) (hb : 0 ≤ b ∧ b ≤ 4294967295) (h : fourL a = fourL b) : a = b := by
  unfold fourL at h
  simp only [List.cons.injEq, and_true] at h
  obtain ⟨h1, h2, h3, h4⟩ := h
  have k1 := congrArg (fun c : UInt8 => (c.toNat : Int)) h1
  have k2 := congrArg (fun c : UInt8 => (c.toNat : Int)) h2
  have k3 := congrArg (fun c : UInt8 => (c.toNat : Int)) h3
  have k4 := congrArg (fun c : UInt8 => (c.toNat : Int)) h4
  rw [of_int (by omega) (by omega), of_int (by omega) (by omega)] at k1 k2 k3 k4
  omega

/-- the four bytes of a text's CRC -/
def tag (t : ByteArray) : List UInt8 := fourL (crcOf t 0)
theorem tag_len (t : ByteArray) : (tag t).length = 4 := rfl
theorem tag_inj {t u : ByteArray} (h : tag t = tag u) : crcOf t 0 = crcOf u 0 := four_inj (crcOf_bd t 0) (crcOf_bd u 0) h
/-- a string as its list -/
theorem of_list {l : List UInt8} : (bytesOf l).data.toList = l := by simp [bytesOf]
theorem ext_list {a b : ByteArray} (h : a.data.toList = b.data.toList) : a = b := ByteArray.ext (by simpa using h)
theorem size_list (s : ByteArray) : s.size = s.data.toList.length := by simp
theorem toList_data (s : ByteArray) : s.toList = s.data.toList := Lib.toList_data s
theorem body_list (s : ByteArray) : (bodyOf s).data.toList = s.data.toList.take (s.size - 4) := by
  unfold bodyOf; simp
theorem tail_list (s : ByteArray) : (tailOf s).data.toList = s.data.toList.drop (s.size - 4) := by
  unfold tailOf; simp
  exact List.take_of_length_le (by simp)
/-- of a text and its own tag: all is well -/
theorem unseal_whole {t : ByteArray} (h : t.size ≤ 7996) : unsealV (t ++ fourS (crcOf t 0)) = outV t 0 0 := by
  have hz : (t ++ fourS (crcOf t 0)).size = t.size + 4 := by simp [fourS_size]
  have hl : (t ++ fourS (crcOf t 0)).data.toList = t.data.toList ++ tag t := by simp [fourS, tag, bytesOf]
  have hb : bodyOf (t ++ fourS (crcOf t 0)) = t := by
    apply ext_list
    rw [body_list, hz, hl]
    simp
  have ht : (tailOf (t ++ fourS (crcOf t 0))).data.toList = tag t := by
    rw [tail_list, hz, hl]
    simp
  rw [unseal_good (by omega) (by omega)]
  · rw [hb]; rfl
  · rw [hb, toList_data, toList_data, ht]
    simp [fourS, tag, bytesOf]
/-- with one byte turned: the sum is refused -/
theorem unseal_turned {t s' : ByteArray} (h : t.size ≤ 7996) {k : Nat} {x : UInt8} (hs : s'.data.toList = (t.data.toList ++ tag t).set k x) (hk : k < t.size + 4) (hx : (t.data.toList ++ tag t)[k]? ≠ some x) : unsealV s' = outV { data := #[] } 0 5 := by
  have hz : s'.size = t.size + 4 := by rw [size_list, hs]; simp [tag_len]
  refine unseal_bad (by omega) (by omega) ?_
  rw [toList_data, toList_data, tail_list, hz, hs]
  intro he
  have he2 : tag (bodyOf s') = ((t.data.toList ++ tag t).set k x).drop t.size := by
    simpa [fourS, tag, bytesOf] using he
  have hbody : (bodyOf s').data.toList = ((t.data.toList ++ tag t).set k x).take t.size := by rw [body_list, hz, hs]; simp
  have ht : t.data.toList.length = t.size := by simp
  by_cases hkt : k < t.size
  · -- a byte of the text
    have hd : ((t.data.toList ++ tag t).set k x).drop t.size = tag t := by
      rw [List.set_append_left _ _ (by omega), List.drop_left' (by simp)]
    have hb : (bodyOf s').data.toList = t.data.toList.set k x := by
      rw [hbody, List.set_append_left _ _ (by omega), List.take_left' (by simp)]
    rw [hd] at he2
    have hg : t.data.toList[k]? ≠ some x := by rwa [List.getElem?_append_left (by omega)] at hx
    have e1 : t.data.toList = t.data.toList.take k ++ t.data.toList[k]'(by omega) :: t.data.toList.drop (k + 1) := by
      rw [← List.drop_eq_getElem_cons, List.take_append_drop]
    have e2 : (bodyOf s').data.toList = t.data.toList.take k ++ x :: t.data.toList.drop (k + 1) := by
      rw [hb, List.set_eq_take_append_cons_drop, if_pos (by omega)]
    refine crc_apart e1 (fun e => hg ?_) e2 (tag_inj he2).symm
    rw [List.getElem?_eq_getElem (by omega), e]
  · -- a byte of the tag
    have hb : bodyOf s' = t := by
      apply ext_list
      rw [hbody, List.set_append_right _ _ (by omega), List.take_left' ht]
    rw [hb, List.set_append_right _ _ (by omega), List.drop_left' ht] at he2
    rw [List.getElem?_append_right (by omega)] at hx
    have hlt : k - t.data.toList.length < (tag t).length := by rw [tag_len]; omega
    apply hx
    rw [he2, List.getElem?_set_self hlt]
end Go.Proofs.Ytnmdfkempkaonaa.SealM
