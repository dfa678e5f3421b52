/- Plain facts: a number is got back from its groups, whatever stands before and behind; of groups cut short nothing is got. -/
import Derived.Test.YtcejkbnnbljfkaaDoorGetText
import Derived.Test.YtcejkbnnbljfkaaDoorPut
namespace Go.Proofs.YtcejkbnnbljfkaaDoor.NumsM
open Go.RowKit PutM GetM GetC

theorem of_nat {u : Nat} (h : u < 256) : (UInt8.ofNat u).toNat = u := by rw [UInt8.toNat_ofNat']; omega
theorem dec_enc : ∀ (u i acc : Nat) (rest : List UInt8), u * 2 ^ (7 * i) < 18446744073709551616 → ¬ (u = 0 ∧ 0 < i) →
    dec (enc u ++ rest) i acc = ⟨0, acc + u * 2 ^ (7 * i), i + (enc u).length⟩ := by
  intro u
  induction u using Nat.strongRecOn with
  | _ u ih =>
    intro i acc rest hb h0
    have h9 : i = 9 → u ≤ 1 := fun e => by subst e; omega
    by_cases h : u < 128
    · rw [enc_lt h]
      have hn : (UInt8.ofNat u).toNat = u := of_nat (by omega)
      rw [List.singleton_append, dec_last (by rw [hn]; omega) (by rw [hn]; exact h) (by rw [hn]; exact h0), hn, Nat.mod_eq_of_lt h]
      rfl
    · rw [enc_ge h]
      have hn : (UInt8.ofNat (u % 128 + 128)).toNat = u % 128 + 128 := of_nat (by omega)
      have hm : (u / 128) * 2 ^ (7 * (i + 1)) + u % 128 * 2 ^ (7 * i) = u * 2 ^ (7 * i) := by
        rw [pow_succ7, ← Nat.mul_assoc, ← Nat.add_mul]
        congr 1
        omega
      rw [List.cons_append, dec_more (by omega) (by omega), hn, ih (u / 128) (by omega) (i + 1) _ rest (by omega) (by omega)]
      simp only [List.length_cons, Got.mk.injEq, true_and]
      rw [show (u % 128 + 128) % 128 = u % 128 by omega]
      omega
theorem unf_fold {n : Int} : unf (foldN n) = n := by
  unfold unf foldN
  split <;> split <;> omega
theorem dec_short : ∀ (l : List UInt8) (i acc : Nat), (∀ b ∈ l, 128 ≤ b.toNat) → i + l.length ≤ 9 → dec l i acc = ⟨4, 0, 0⟩
  | [], _, _, _, _ => rfl
  | b :: l, i, acc, hb, hl => by
    have h := hb b (by simp)
    simp only [List.length_cons] at hl
    rw [dec_more (by omega) (by omega)]
    exact dec_short l (i + 1) _ (fun c hc => hb c (by simp [hc])) (by omega)
theorem enc_ne (u : Nat) : enc u ≠ [] := by
  by_cases h : u < 128
  · rw [enc_lt h]; simp
  · rw [enc_ge h]; simp
theorem enc_init : ∀ (u : Nat), ∀ b ∈ (enc u).dropLast, 128 ≤ b.toNat := by
  intro u
  induction u using Nat.strongRecOn with
  | _ u ih =>
    by_cases h : u < 128
    · rw [enc_lt h]; simp
    · rw [enc_ge h]
      have hne : enc (u / 128) ≠ [] := enc_ne _
      rw [List.dropLast_cons_of_ne_nil hne]
      intro b hb
      rcases List.mem_cons.1 hb with rfl | hb
      · rw [of_nat (by omega)]; omega
      · exact ih (u / 128) (by omega) b hb
theorem ext_list {a b : ByteArray} (h : a.data.toList = b.data.toList) : a = b := ByteArray.ext (by simpa using h)
theorem size_list (s : ByteArray) : s.size = s.data.toList.length := by simp
theorem encB_list (n : Int) : (encB n).data.toList = enc (foldN n) := by simp [encB, bytesOf]

/-- GetNum, at a number's bytes -/
theorem get_num {s : ByteArray} {a : Nat} {n : Int} {rest : List UInt8} (hs : s.size ≤ 8000) (h1 : -9223372036854775808 ≤ n) (h2 : n ≤ 9223372036854775807) (hd : s.data.toList.drop a = enc (foldN n) ++ rest) :
    getV s a = numV n ((a : Int) + (enc (foldN n)).length) 0 := by
  have hg : gotOf s a = ⟨0, foldN n, (enc (foldN n)).length⟩ := by
    unfold gotOf
    rw [hd, dec_enc _ 0 0 rest (by have := foldN_lt h1 h2; omega) (by omega)]
    simp
  rw [getV_ok hs hg, unf_fold]
theorem get_short {s : ByteArray} {n : Int} (h1 : -9223372036854775808 ≤ n) (h2 : n ≤ 9223372036854775807) (hd : s.data.toList = (enc (foldN n)).dropLast) : getV s ((0 : Nat) : Int) = numV 0 0 4 := by
  have hl := enc_len64 (foldN_lt h1 h2)
  have hz : s.size ≤ 9 := by rw [size_list, hd, List.length_dropLast]; omega
  refine getV_bad (by omega) (by omega) ?_
  unfold gotOf
  rw [List.drop_zero, hd]
  exact dec_short _ 0 0 (enc_init _) (by rw [List.length_dropLast]; omega)

def xS : ByteArray := { data := #[120] }
def xyS : ByteArray := { data := #[120, 121] }
def zS : ByteArray := { data := #[122] }
/-- GetNum in the midst of a string -/
theorem num_mid {n : Int} (h1 : -9223372036854775808 ≤ n) (h2 : n ≤ 9223372036854775807) : getV (xyS ++ encB n ++ zS) ((2 : Nat) : Int) = numV n (((encB n).size : Int) + 2) 0 := by
  have hl := enc_len64 (foldN_lt h1 h2)
  have hz : (encB n).size = (enc (foldN n)).length := by rw [size_list, encB_list]
  have hd : (xyS ++ encB n ++ zS).data.toList.drop 2 = enc (foldN n) ++ [122] := by
    have : (xyS ++ encB n ++ zS).data.toList = [120, 121] ++ ((encB n).data.toList ++ [122]) := by simp [xyS, zS]
    rw [this, encB_list]; rfl
  have hs : (xyS ++ encB n ++ zS).size ≤ 8000 := by
    rw [ByteArray.size_append, ByteArray.size_append, hz]
    show 2 + (enc (foldN n)).length + 1 ≤ 8000
    omega
  rw [get_num hs h1 h2 hd, hz]
  exact num_eq rfl (by omega)
theorem cut_list (s : ByteArray) : (s.extract 0 (s.size - 1)).data.toList = s.data.toList.dropLast := by
  have h : (s.extract 0 (s.size - 1)).data.toList = s.data.toList.take (s.size - 1) := by
    simp
    rw [List.dropLast_eq_take, ← size_list]
  rw [h, List.dropLast_eq_take, ← size_list]
theorem num_cut {n : Int} (h1 : -9223372036854775808 ≤ n) (h2 : n ≤ 9223372036854775807) : getV ((encB n).extract 0 ((encB n).size - 1)) ((0 : Nat) : Int) = numV 0 0 4 :=
  get_short h1 h2 (by rw [cut_list, encB_list])

/-- a text's bytes -/
theorem put_list (u : ByteArray) : (encB u.size ++ u).data.toList = enc (foldN u.size) ++ u.data.toList := by simp [encB_list]
theorem put_size (u : ByteArray) : (encB u.size ++ u).size = (enc (foldN u.size)).length + u.size := by rw [size_list, put_list, List.length_append, size_list]
theorem text_mid {u : ByteArray} (hu : u.size ≤ 8000) (hp : (encB u.size ++ u).size + 1 ≤ 8000) :
    ∃ n q, getV (xS ++ (encB u.size ++ u)) ((1 : Nat) : Int) = numV n q 0 ∧ (0 ≤ q ∧ q ≤ (xS ++ (encB u.size ++ u)).size ∧ (xS ++ (encB u.size ++ u)).size ≤ 8000) ∧
      textOf (xS ++ (encB u.size ++ u)) n q 0 = txtV u (((encB u.size ++ u).size : Int) + 1) 0 := by
  have hx : (xS ++ (encB u.size ++ u)).data.toList = [120] ++ (enc (foldN u.size) ++ u.data.toList) := by simp [xS, encB_list]
  have hz : (xS ++ (encB u.size ++ u)).size = 1 + (encB u.size ++ u).size := by rw [size_list, hx, put_size, size_list u]; simp; omega
  have hs := put_size u
  have hd : (xS ++ (encB u.size ++ u)).data.toList.drop 1 = enc (foldN u.size) ++ u.data.toList := by rw [hx]; rfl
  refine ⟨_, _, get_num (by omega) (by omega) (by omega) hd, ⟨by omega, by omega, by omega⟩, ?_⟩
  rw [textOf_ok ⟨by omega, by omega⟩ (by omega)]
  have he : (xS ++ (encB u.size ++ u)).extract ((((1 : Nat) : Int) + (enc (foldN u.size)).length).toNat) ((((1 : Nat) : Int) + (enc (foldN u.size)).length + u.size).toNat) = u := by
    apply ext_list
    have e1 : (((1 : Nat) : Int) + (enc (foldN u.size)).length).toNat = 1 + (enc (foldN u.size)).length := by omega
    have e2 : (((1 : Nat) : Int) + (enc (foldN u.size)).length + u.size).toNat = 1 + (enc (foldN u.size)).length + u.size := by omega
    rw [e1, e2]
    have : ((xS ++ (encB u.size ++ u)).extract (1 + (enc (foldN u.size)).length) (1 + (enc (foldN u.size)).length + u.size)).data.toList = ((xS ++ (encB u.size ++ u)).data.toList.drop (1 + (enc (foldN u.size)).length)).take u.size := by
      simp only [ByteArray.data_extract, Array.toList_extract, List.extract_eq_take_drop]
      congr 1
      omega
    rw [this, hx, ← List.append_assoc, List.drop_left' (by simp; omega), List.take_of_length_le (by simp)]
  rw [he]
  unfold txtV
  rw [show (((1 : Nat) : Int) + (enc (foldN u.size)).length + u.size) = ((encB u.size ++ u).size : Int) + 1 by omega]
theorem text_cut {u : ByteArray} (hu : u.size ≤ 8000) (hp : (encB u.size ++ u).size + 1 ≤ 8000) :
    ∃ n q c, getV ((encB u.size ++ u).extract 0 ((encB u.size ++ u).size - 1)) ((0 : Nat) : Int) = numV n q c ∧
      (c = 0 → 0 ≤ q ∧ q ≤ ((encB u.size ++ u).extract 0 ((encB u.size ++ u).size - 1)).size ∧ ((encB u.size ++ u).extract 0 ((encB u.size ++ u).size - 1)).size ≤ 8000) ∧
      textOf ((encB u.size ++ u).extract 0 ((encB u.size ++ u).size - 1)) n q c = txtV { data := #[] } 0 4 := by
  have hs := put_size u
  have hl := cut_list (encB u.size ++ u)
  rw [put_list] at hl
  have hz : ((encB u.size ++ u).extract 0 ((encB u.size ++ u).size - 1)).size = (encB u.size ++ u).size - 1 := by
    rw [size_list, hl, List.length_dropLast, List.length_append, hs, size_list u]
  by_cases h0 : u.size = 0
  · refine ⟨0, 0, 4, get_short (n := u.size) (by omega) (by omega) ?_, fun h => by omega, textOf_bad (by omega)⟩
    have : u.data.toList = [] := List.eq_nil_of_length_eq_zero (by rw [← size_list]; exact h0)
    rw [hl, this, List.append_nil]
  · have hne : u.data.toList ≠ [] := fun e => h0 (by rw [size_list, e]; rfl)
    rw [List.dropLast_append_of_ne_nil hne] at hl
    refine ⟨_, _, 0, get_num (n := u.size) (by omega) (by omega) (by omega) (rest := u.data.toList.dropLast) (by rw [List.drop_zero, hl]), fun _ => ⟨by omega, by omega, by omega⟩, textOf_short ⟨by omega, by omega⟩ (by omega)⟩
end Go.Proofs.YtcejkbnnbljfkaaDoor.NumsM
