/- Plain facts on an entry's bytes: six numbers, read one behind the other; what is read is what was written. -/
import Derived.Test.YtdimpopkkjpddaaDoorGet
import Derived.Test.YtdimpopkkjpddaaDoorUnseal
import Derived.Test.YtdimpopkkjpddaaDoorEnB0
namespace Go.Proofs.YtdimpopkkjpddaaDoor.EnM
open Go.RowKit PutM GetM GetC SealC CrcC
set_option linter.unusedSimpArgs false

theorem of_nat' {u : Nat} (h : u < 256) : (UInt8.ofNat u).toNat = u := by rw [UInt8.toNat_ofNat']; omega
theorem u8_eq {b : UInt8} {n : Nat} (hn : n < 256) (h : b.toNat = n) : UInt8.ofNat n = b := by
  apply UInt8.toNat_inj.1
  rw [of_nat' hn, h]
/-- what is read stands there, in its only form -/
theorem dec_back : ∀ (l : List UInt8) (i u : Nat), i ≤ 9 → (dec l i u).code = 0 →
    ∃ z : Nat, (dec l i u).u = u + z * 2 ^ (7 * i) ∧ (dec l i u).used = i + (enc z).length ∧ l.take (enc z).length = enc z ∧ (0 < i → z ≠ 0) := by
  intro l
  induction l with
  | nil => intro i u _ h; simp [dec_nil] at h
  | cons b r ih =>
    intro i u hi h
    have hb := b.toNat_lt
    by_cases h9 : i = 9 ∧ 1 < b.toNat
    · obtain ⟨rfl, h1⟩ := h9
      rw [dec_big h1] at h; simp at h
    · by_cases h1 : b.toNat < 128
      · by_cases h0 : b.toNat = 0 ∧ 0 < i
        · rw [dec_zero h0.1 h0.2] at h; simp at h
        · rw [dec_last h9 h1 h0]
          refine ⟨b.toNat, ?_, ?_, ?_, fun hp hz => h0 ⟨hz, hp⟩⟩
          · simp only; rw [Nat.mod_eq_of_lt h1]
          · rw [enc_lt h1]; rfl
          · rw [enc_lt h1, u8_eq (by omega) rfl]; rfl
      · have hlt : i < 9 := by
          rcases Nat.lt_or_ge i 9 with h2 | h2
          · exact h2
          · exfalso; exact h9 ⟨by omega, by omega⟩
        rw [dec_more h9 h1] at h ⊢
        obtain ⟨z, hz1, hz2, hz3, hz4⟩ := ih (i + 1) (u + b.toNat % 128 * 2 ^ (7 * i)) (by omega) h
        have hz := hz4 (by omega)
        have hge : ¬ z * 128 + b.toNat % 128 < 128 := by omega
        have hd : (z * 128 + b.toNat % 128) / 128 = z := by omega
        have hm : (z * 128 + b.toNat % 128) % 128 + 128 = b.toNat := by omega
        have he : enc (z * 128 + b.toNat % 128) = b :: enc z := by
          rw [enc_ge hge, hd, u8_eq (by omega) hm.symm]
        refine ⟨z * 128 + b.toNat % 128, ?_, ?_, ?_, fun _ => by omega⟩
        · rw [hz1, pow_succ7, Nat.add_mul, Nat.mul_assoc]; omega
        · rw [hz2, he]; simp only [List.length_cons]; omega
        · rw [he]; simp only [List.length_cons, List.take_succ_cons, hz3]
theorem fold_unf {u : Nat} : foldN (unf u) = u := by
  unfold unf foldN
  split <;> split <;> omega

/-- k numbers from p on, behind those of l -/
def rdk (s : ByteArray) : Nat → Nat → List Int → Option (List Int × Nat)
  | 0, p, l => some (l, p)
  | k + 1, p, l => if (gotOf s p).code = 0 then rdk s k (p + (gotOf s p).used) (l ++ [unf (gotOf s p).u]) else none
theorem rdk_zero {s : ByteArray} {p : Nat} {l : List Int} : rdk s 0 p l = some (l, p) := rfl
theorem rdk_step {s : ByteArray} {k p : Nat} {l : List Int} (h : (gotOf s p).code = 0) : rdk s (k + 1) p l = rdk s k (p + (gotOf s p).used) (l ++ [unf (gotOf s p).u]) := by rw [rdk, if_pos h]
theorem rdk_bad {s : ByteArray} {k p : Nat} {l : List Int} (h : ¬ (gotOf s p).code = 0) : rdk s (k + 1) p l = none := by rw [rdk, if_neg h]
def encs (l : List Int) : List UInt8 := l.flatMap (fun n => enc (foldN n))
theorem encs_snoc (l : List Int) (n : Int) : encs (l ++ [n]) = encs l ++ enc (foldN n) := by simp [encs]
def In64 (n : Int) : Prop := -9223372036854775808 ≤ n ∧ n ≤ 9223372036854775807
theorem got_back {s : ByteArray} {p : Nat} (hp : p ≤ s.size) (h : (gotOf s p).code = 0) :
    (s.data.toList.drop p).take (gotOf s p).used = enc (gotOf s p).u ∧ p + (gotOf s p).used ≤ s.size ∧ (gotOf s p).u < 18446744073709551616 := by
  have hb := dec_bd (s.data.toList.drop p) 0 0 (by omega) (by omega)
  unfold gotOf at h ⊢
  obtain ⟨z, h1, h2, h3, _⟩ := dec_back (s.data.toList.drop p) 0 0 (by omega) h
  have hz : (dec (s.data.toList.drop p) 0 0).u = z := by rw [h1]; simp
  refine ⟨?_, ?_, hb.1⟩
  · rw [hz, h2, Nat.zero_add]; exact h3
  · have := hb.2.1
    have hl : (s.data.toList.drop p).length = s.size - p := by simp
    omega
theorem rdk_back {s : ByteArray} : ∀ (k p : Nat) (l : List Int), s.data.toList.take p = encs l → p ≤ s.size → (∀ n ∈ l, In64 n) → ∀ l' q, rdk s k p l = some (l', q) →
    s.data.toList.take q = encs l' ∧ q ≤ s.size ∧ l'.length = l.length + k ∧ ∀ n ∈ l', In64 n := by
  intro k
  induction k with
  | zero =>
    intro p l h hp hl l' q hr
    rw [rdk_zero] at hr
    obtain ⟨rfl, rfl⟩ := Prod.mk.inj (Option.some.inj hr)
    exact ⟨h, hp, rfl, hl⟩
  | succ k ih =>
    intro p l h hp hl l' q hr
    by_cases hc : (gotOf s p).code = 0
    · rw [rdk_step hc] at hr
      obtain ⟨h1, h2, h3⟩ := got_back hp hc
      have := ih (p + (gotOf s p).used) (l ++ [unf (gotOf s p).u]) (by rw [List.take_add, h, h1, encs_snoc, fold_unf]) h2 (by
        intro n hn
        rcases List.mem_append.1 hn with hn | hn
        · exact hl n hn
        · rw [List.mem_singleton.1 hn]; exact unf_bd h3) l' q hr
      refine ⟨this.1, this.2.1, ?_, this.2.2.2⟩
      rw [this.2.2.1, List.length_append]; simp; omega
    · rw [rdk_bad hc] at hr; cases hr
theorem six {l : List Int} (h : l.length = 6) : ∃ a b c d e f, l = [a, b, c, d, e, f] := by
  match l, h with
  | [a, b, c, d, e, f], _ => exact ⟨a, b, c, d, e, f, rfl⟩
theorem ext_list' {a b : ByteArray} (h : a.data.toList = b.data.toList) : a = b := ByteArray.ext (by simpa using h)
theorem size_list' (s : ByteArray) : s.size = s.data.toList.length := by simp
theorem encB_list' (n : Int) : (encB n).data.toList = enc (foldN n) := by simp [encB, bytesOf]
theorem cat_list (k l t a b c : Int) : (EnC.cat6 k l t a b c).data.toList = encs [k, l, t, a, b, c] := by
  simp [EnC.cat6, encs, encB_list']
theorem body_seal {x : ByteArray} (h : x.size ≤ 7996) : bodyOf (sealOf x) = x := by
  rw [seal_in h]
  apply ext_list'
  have hz := fourS_size (crcOf x 0)
  unfold bodyOf
  simp only [ByteArray.size_append, hz, ByteArray.data_extract, Array.toList_extract, List.extract_eq_take_drop, ByteArray.data_append, Array.toList_append]
  simp
theorem seal_body {s : ByteArray} (h : s.size ≤ 8000) (h4 : 4 ≤ s.size) (he : (fourS (crcOf (bodyOf s) 0)).toList = (tailOf s).toList) : sealOf (bodyOf s) = s := by
  have hz := body_size s
  have he' : fourS (crcOf (bodyOf s) 0) = tailOf s := by
    apply ext_list'
    simpa [ByteArray.toList_eq] using he
  rw [seal_in (by omega), he']
  apply ext_list'
  unfold bodyOf tailOf
  simp

def entV (x0 x1 x2 x3 x4 x5 c : Int) : Value := .agg #[.int .i64 x0, .int .i64 x1, .int .i64 x2, .int .i64 x3, .int .i64 x4, .int .i64 x5, .int .i64 c]
/-- what EntryRead answers -/
def readE (s : ByteArray) : Value :=
  if unsealE s = 0 then
    match rdk (bodyOf s) 6 0 [] with
    | some ([k, l, t, a, b, c], p) => if p = (bodyOf s).size ∧ EnC.entB k l t a b c = true then entV k l t a b c 0 else entV 0 0 0 0 0 0 3
    | _ => entV 0 0 0 0 0 0 3
  else entV 0 0 0 0 0 0 (unsealE s)
theorem readE_ill {s : ByteArray} (h : ¬ unsealE s = 0) : readE s = entV 0 0 0 0 0 0 (unsealE s) := by unfold readE; rw [if_neg h]
theorem readE_none {s : ByteArray} (h : unsealE s = 0) (hr : rdk (bodyOf s) 6 0 [] = none) : readE s = entV 0 0 0 0 0 0 3 := by unfold readE; rw [if_pos h, hr]
theorem readE_yes {s : ByteArray} {k l t a b c : Int} (h : unsealE s = 0) (hr : rdk (bodyOf s) 6 0 [] = some ([k, l, t, a, b, c], (bodyOf s).size)) (he : EnC.entB k l t a b c = true) : readE s = entV k l t a b c 0 := by
  unfold readE; rw [if_pos h, hr]; exact if_pos ⟨rfl, he⟩
theorem readE_no {s : ByteArray} {k l t a b c : Int} {p : Nat} (h : unsealE s = 0) (hr : rdk (bodyOf s) 6 0 [] = some ([k, l, t, a, b, c], p)) (he : ¬ (p = (bodyOf s).size ∧ EnC.entB k l t a b c = true)) : readE s = entV 0 0 0 0 0 0 3 := by
  unfold readE; rw [if_pos h, hr]; exact if_neg he
theorem readE_form (s : ByteArray) : ∃ x0 x1 x2 x3 x4 x5 c : Int, readE s = .agg #[.int .i64 x0, .int .i64 x1, .int .i64 x2, .int .i64 x3, .int .i64 x4, .int .i64 x5, .int .i64 c] := by
  unfold readE
  split
  · split
    · split
      · exact ⟨_, _, _, _, _, _, _, rfl⟩
      · exact ⟨_, _, _, _, _, _, _, rfl⟩
    · exact ⟨_, _, _, _, _, _, _, rfl⟩
  · exact ⟨_, _, _, _, _, _, _, rfl⟩
theorem unseal_zero {s : ByteArray} (h : unsealE s = 0) : s.size ≤ 8000 ∧ 4 ≤ s.size ∧ (fourS (crcOf (bodyOf s) 0)).toList = (tailOf s).toList ∧ unsealT s = bodyOf s := by
  unfold unsealE at h
  split at h
  · split at h
    · split at h
      · rename_i h1 h2 h3
        exact ⟨h1, h2, h3, by unfold unsealT; rw [if_pos ⟨h1, h2, h3⟩]⟩
      · cases h
    · cases h
  · cases h
/-- what was read, written again, is the text exactly if nothing stands behind it -/
theorem back_iff {s : ByteArray} {k l t a b c : Int} {p : Nat} (h : unsealE s = 0) (hr : rdk (bodyOf s) 6 0 [] = some ([k, l, t, a, b, c], p)) (he : EnC.entB k l t a b c = true) : EnC.bytesE k l t a b c = s ↔ p = (bodyOf s).size := by
  obtain ⟨h1, h2, h3, _⟩ := unseal_zero h
  have hb := rdk_back 6 0 [] (by simp [encs]) (by omega) (by simp) _ _ hr
  have hz := body_size s
  have hsz : (EnC.cat6 k l t a b c).size ≤ 7996 := by
    have e : (EnC.cat6 k l t a b c).size = ((bodyOf s).data.toList.take p).length := by rw [size_list', cat_list, hb.1]
    have e2 : (bodyOf s).data.toList.length = (bodyOf s).size := by simp
    rw [e, List.length_take, e2]
    omega
  rw [EnC.bytes_yes he]
  constructor
  · intro hs
    have h5 : bodyOf s = EnC.cat6 k l t a b c := by rw [← body_seal hsz, hs]
    have h6 : (bodyOf s).data.toList.take p = (bodyOf s).data.toList := by rw [hb.1, h5, cat_list]
    have h7 := congrArg List.length h6
    have e2 : (bodyOf s).data.toList.length = (bodyOf s).size := by simp
    rw [List.length_take, e2] at h7
    have := hb.2.1
    omega
  · intro hp
    have h5 : EnC.cat6 k l t a b c = bodyOf s := by
      apply ext_list'
      rw [cat_list, ← hb.1, hp]
      exact List.take_of_length_le (by simp)
    rw [h5]
    exact seal_body h1 h2 h3
/-- and no text of an entry is no entry's -/
theorem bytes_ne {s : ByteArray} {k l t a b c : Int} (h : unsealE s = 0) (he : EnC.entB k l t a b c = false) : EnC.bytesE k l t a b c ≠ s := by
  obtain ⟨_, h2, _, _⟩ := unseal_zero h
  rw [EnC.bytes_no he]
  intro e
  rw [← e] at h2
  exact absurd h2 (by decide)
theorem got_at {s : ByteArray} {p : Nat} (hs : s.size ≤ 8000) (h : (gotOf s p).code = 0) : getV s (p : Int) = numV (unf (gotOf s p).u) (((p + (gotOf s p).used : Nat)) : Int) 0 := by
  rw [getV_ok hs (y := (gotOf s p).u) (n := (gotOf s p).used) (by rw [← h])]
  exact num_eq rfl (by omega)
theorem got_not {s : ByteArray} {p : Nat} (hs : s.size ≤ 8000) (h : ¬ (gotOf s p).code = 0) : getV s (p : Int) = numV 0 0 (gotOf s p).code := by
  have hb := dec_bd (s.data.toList.drop p) 0 0 (by omega) (by omega)
  have h2 := hb.2.2.2 h
  exact getV_bad hs h (by
    show gotOf s p = ⟨(gotOf s p).code, 0, 0⟩
    have e1 : (gotOf s p).u = 0 := h2.1
    have e2 : (gotOf s p).used = 0 := h2.2
    cases hg : gotOf s p with
    | mk c u n => rw [hg] at e1 e2; simp only at e1 e2; rw [e1, e2])
end Go.Proofs.YtdimpopkkjpddaaDoor.EnM
