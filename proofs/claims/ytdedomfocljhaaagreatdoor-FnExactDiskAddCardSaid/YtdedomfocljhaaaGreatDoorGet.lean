/- GetNum, in the program and in its model: contracts. -/
import Derived.Test.YtdedomfocljhaaaGreatDoorAs
import Derived.Test.YtdedomfocljhaaaGreatDoorGetMath
import Derived.LoopTactic
import Derived.ScopeJumps
import Derived.WalkMore
import Derived.IntWalk
namespace Go.Proofs.YtdedomfocljhaaaGreatDoor.GetC
open Go.RowKit GetM AsC

/-- a NumOut -/
def numV (n a c : Int) : Value := .agg #[.int .i64 n, .int .i64 a, .int .i64 c]
def gotOf (s : ByteArray) (a : Nat) : Got := dec (s.data.toList.drop a) 0 0
def getV (s : ByteArray) (a : Int) : Value :=
  if s.size ≤ 8000 then
    if 0 ≤ a then
      if (gotOf s a.toNat).code = 0 then numV (unf (gotOf s a.toNat).u) (a + (gotOf s a.toNat).used) 0 else numV 0 0 (gotOf s a.toNat).code
    else numV 0 0 1
  else numV 0 0 2

theorem drop_cons (s : ByteArray) (k : Nat) (h : k < s.size) : s.data.toList.drop k = s[k] :: s.data.toList.drop (k + 1) := by
  rw [List.drop_eq_getElem_cons (by simpa using h)]; rfl
theorem drop_end (s : ByteArray) (k : Nat) (h : ¬ k < s.size) : s.data.toList.drop k = [] := List.drop_of_length_le (by simp; omega)

theorem ret_v {a b : Value} (h : a = b) : Ending.returned a = .returned b := by rw [h]
theorem getV_ok {s : ByteArray} {a : Nat} (hs : s.size ≤ 8000) {y n : Nat} (h : gotOf s a = ⟨0, y, n⟩) : getV s (a : Int) = numV (unf y) ((a : Int) + n) 0 := by
  unfold getV
  rw [if_pos hs, if_pos (by omega), Int.toNat_natCast, h]
  simp
theorem getV_bad {s : ByteArray} {a : Nat} (hs : s.size ≤ 8000) {c : Int} (hc : c ≠ 0) (h : gotOf s a = ⟨c, 0, 0⟩) : getV s (a : Int) = numV 0 0 c := by
  unfold getV
  rw [if_pos hs, if_pos (by omega), Int.toNat_natCast, h]
  simp [hc]
theorem unf_even {y : Nat} (h : y % 2 = 0) : unf y = ((y / 2 : Nat) : Int) := by unfold unf; rw [if_pos h]
theorem unf_odd {y : Nat} (h : ¬ y % 2 = 0) : unf y = -((y / 2 : Nat) : Int) - 1 := by unfold unf; rw [if_neg h]
theorem wrap_u64_in {x : Int} (h : 0 ≤ x) (h2 : x < 18446744073709551616) : IntKind.u64.wrap x = x := by simp only [IntKind.wrap_u64]; omega
theorem num_eq {n n' a a' c : Int} (h : n = n') (h2 : a = a') : numV n a c = numV n' a' c := by rw [h, h2]
/-- the group, as the model computes it -/
theorem sum_form {k x b : Nat} (hk : k ≤ 9) (hx : x < 2 ^ (7 * k)) (h9 : k = 9 → b % 128 ≤ 1) :
    IntKind.u64.wrap ((x : Int) + IntKind.u64.wrap ((b : Int) % 128 * 2 ^ (7 * k))) = ((x + b % 128 * 2 ^ (7 * k) : Nat) : Int) := by
  have h1 := shl_64 (i := k) (x := b % 128) (Nat.mod_lt _ (by omega)) hk h9
  have h2 := group_64 hx (Nat.mod_lt b (by omega : 0 < 128)) hk h9
  have e : (b : Int) % 128 * 2 ^ (7 * k) = ((b % 128 * 2 ^ (7 * k) : Nat) : Int) := by simp
  rw [e, wrap_u64_in (x := ((b % 128 * 2 ^ (7 * k) : Nat) : Int)) (by omega) (by omega), wrap_u64_in (by omega) (by omega)]
  omega
theorem sum_form9 {x : Nat} (hx : x < 9223372036854775808) :
    IntKind.u64.wrap ((x : Int) + 9223372036854775808) = ((x + 9223372036854775808 : Nat) : Int) := by
  rw [wrap_u64_in (by omega) (by omega)]; omega

set_option maxRecDepth 100000 in
set_option maxHeartbeats 1000000 in
theorem spec_in (s : ByteArray) (a : Nat) (w : World) (hs : s.size ≤ 8000) (ha : a ≤ 9223372036854775807) :
    Calls Tryz.prog 69 #[.string s, .int .i64 a] w fun e w' => e = .returned (getV s a) ∧ Below w.heap.size w w' := by
  go_enter Tryz.func69, Tryz.ntmps69
  go_wp2
  go_loop [5, 6] (fun u i => ∃ (k x : Nat), k ≤ 9 ∧ x < 2 ^ (7 * k) ∧ u = .int .u64 x ∧ i = .int .i64 k ∧ dec (s.data.toList.drop (a + k)) k x = gotOf s a) (fun _ i => 10 - (intOf i).toNat)
  case atStart => exact ⟨0, 0, by omega, by simp, rfl, rfl, rfl⟩
  case round =>
    obtain ⟨k, x, hk, hx, rfl, rfl, hd⟩ := hrel
    by_cases hlt : a + k < s.size
    · rw [drop_cons s (a + k) hlt] at hd
      have hb1 : 0 ≤ (s[a + k].toNat : Int) := by omega
      have hb2 : (s[a + k].toNat : Int) < 256 := by have := s[a + k].toNat_lt; omega
      have hwb : IntKind.u64.wrap (s[a + k].toNat : Int) = (s[a + k].toNat : Int) := by simp only [IntKind.wrap_u64]; omega
      by_cases hbad : (k = 9 ∧ 1 < s[a + k].toNat) ∨ (s[a + k].toNat = 0 ∧ 0 < k)
      · have hd3 : (⟨3, 0, 0⟩ : Got) = gotOf s a := by
          rw [← hd]
          rcases hbad with ⟨rfl, h⟩ | ⟨h, h2⟩
          · rw [dec_big h]
          · rw [dec_zero h h2]
        have HF := Lib.hid (getV_bad hs (c := 3) (by omega) hd3.symm)
        clear hd hd3
        rcases hbad with ⟨rfl, h⟩ | ⟨h, h2⟩
        · have hg : 1 < (s[a + 9].toNat : Int) := by omega
          go_wp2
          exact bodyPost_ret (v := numV 0 0 3) (by simp [results, Tryz.results69, go_sem, numV]) rfl ⟨ret_v HF.out.symm, (Below.refl _ _).alloc (Nat.le_refl _) _⟩
        · have hg : (s[a + k].toNat : Int) = 0 := by omega
          have hk0 : 0 < (k : Int) := by omega
          go_wp2
          all_goals exact bodyPost_ret (v := numV 0 0 3) (by simp [results, Tryz.results69, go_sem, numV]) rfl ⟨ret_v HF.out.symm, (Below.refl _ _).alloc (Nat.le_refl _) _⟩
      · have h9 : k = 9 → s[a + k].toNat % 128 ≤ 1 := fun e => by omega
        have h9n : ¬ (k = 9 ∧ 1 < s[a + k].toNat) := fun e => hbad (.inl e)
        have h0n : ¬ (s[a + k].toNat = 0 ∧ 0 < k) := fun e => hbad (.inr e)
        have hy := sum_form (b := s[a + k].toNat) hk hx h9
        have hy2 := group_64 hx (Nat.mod_lt s[a + k].toNat (by omega : 0 < 128)) hk h9
        by_cases h1 : s[a + k].toNat < 128
        · rw [dec_last h9n h1 h0n] at hd
          have HF := Lib.hid (getV_ok hs hd.symm)
          clear hd
          have hn : (s[a + k].toNat : Int) < 128 := by omega
          by_cases h9k : k = 9
          · subst h9k
            have hle : ¬ 1 < (s[a + 9].toNat : Int) := by omega
            have hone : s[a + 9].toNat = 1 := by omega
            have hone' : (s[a + 9].toNat : Int) = 1 := by omega
            have hs9 := sum_form9 (x := x) (by simpa using hx)
            rw [hone] at HF hy2
            clear h9 h9n h0n hbad hy
            have e9 : x + 1 % 128 * 2 ^ (7 * 9) = x + 9223372036854775808 := by omega
            rw [e9] at HF hy2
            generalize x + 9223372036854775808 = y at *
            by_cases hp : y % 2 = 0
            · rw [unf_even hp] at HF
              have hp2 : ((y : Int) % 2 == 1) = false := by simp; omega
              go_wp2
              exact bodyPost_ret (v := numV ((y : Int) / 2) ((a : Int) + 9 + 1) 0) (by simp [results, Tryz.results69, go_sem, numV]) rfl ⟨ret_v ((num_eq (by omega) (by omega)).trans HF.out.symm), (Below.refl _ _).alloc (Nat.le_refl _) _⟩
            · rw [unf_odd hp] at HF
              have hp2 : ((y : Int) % 2 == 1) = true := by simp; omega
              go_wp2
              exact bodyPost_ret (v := numV (-((y : Int) / 2) - 1) ((a : Int) + 9 + 1) 0) (by simp [results, Tryz.results69, go_sem, numV]) rfl ⟨ret_v ((num_eq (by omega) (by omega)).trans HF.out.symm), (Below.refl _ _).alloc (Nat.le_refl _) _⟩
          · have hk9 : ¬ (k : Int) = 9 := by omega
            by_cases hb0 : s[a + k].toNat = 0
            · have hkz : k = 0 := by omega
              subst hkz
              have hxz : x = 0 := by simpa using hx
              subst hxz
              rw [hb0] at HF
              have hlt' : a < s.size := by omega
              have hb0' : s[a].toNat = 0 := hb0
              have hbz : (s[a].toNat : Int) = 0 := by omega
              clear h9 h9n h0n hbad hy
              go_wp2
              exact bodyPost_ret (v := numV 0 ((a : Int) + 1) 0) (by simp [results, Tryz.results69, go_sem, numV]) rfl ⟨ret_v ((num_eq (by simp [unf]) (by omega)).trans HF.out.symm), (Below.refl _ _).alloc (Nat.le_refl _) _⟩
            · have hbz : ((s[a + k].toNat : Int) == 0) = false := by simp; omega
              generalize x + s[a + k].toNat % 128 * 2 ^ (7 * k) = y at *
              clear h9 h9n h0n hbad
              by_cases hp : y % 2 = 0
              · rw [unf_even hp] at HF
                have hp2 : ((y : Int) % 2 == 1) = false := by simp; omega
                go_wp2
                exact bodyPost_ret (v := numV ((y : Int) / 2) ((a : Int) + k + 1) 0) (by simp [results, Tryz.results69, go_sem, numV]) rfl ⟨ret_v ((num_eq (by omega) (by omega)).trans HF.out.symm), (Below.refl _ _).alloc (Nat.le_refl _) _⟩
              · rw [unf_odd hp] at HF
                have hp2 : ((y : Int) % 2 == 1) = true := by simp; omega
                go_wp2
                exact bodyPost_ret (v := numV (-((y : Int) / 2) - 1) ((a : Int) + k + 1) 0) (by simp [results, Tryz.results69, go_sem, numV]) rfl ⟨ret_v ((num_eq (by omega) (by omega)).trans HF.out.symm), (Below.refl _ _).alloc (Nat.le_refl _) _⟩
        · rw [dec_more h9n h1] at hd
          have HD := Lib.hid hd
          have hx2 := group_lt hx (Nat.mod_lt s[a + k].toNat (by omega : 0 < 128))
          clear hd
          generalize x + s[a + k].toNat % 128 * 2 ^ (7 * k) = y at *
          have hn : ¬ (s[a + k].toNat : Int) < 128 := by omega
          have h9k : ¬ (k : Int) = 9 := by omega
          have hkk : k ≤ 8 := by omega
          clear h9 h9n h0n hbad
          go_wp2
          go_round
          case rel => exact ⟨k + 1, y, by omega, hx2, rfl, by go_num, HD.out⟩
          case measure => simp [intOf]; omega
    · rw [drop_end s (a + k) hlt, dec_nil] at hd
      have HF := Lib.hid (getV_bad hs (by omega) hd.symm)
      clear hd
      go_wp2
      exact bodyPost_ret (v := numV 0 0 4) (by simp [results, Tryz.results69, go_sem, numV]) rfl ⟨ret_v HF.out.symm, (Below.refl _ _).alloc (Nat.le_refl _) _⟩
end Go.Proofs.YtdedomfocljhaaaGreatDoor.GetC
