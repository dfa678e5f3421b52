/- Frames read: what is read: plain facts. -/
import Derived.Test.YtdedomfocljhaaaGreatDoorFrP
import Derived.Test.YtdedomfocljhaaaGreatDoorGetText
namespace Go.Proofs.YtdedomfocljhaaaGreatDoor.FrC
open Go.RowKit PutM PutC JoinC SealC SpanC GetM GetC CrcC
set_option linter.unusedVariables false
set_option linter.unusedSimpArgs false

/-- GetNum's three -/
def gN (s : ByteArray) (a : Int) : Int × Int × Int :=
  if s.size ≤ 8000 then
    if 0 ≤ a then
      if (gotOf s a.toNat).code = 0 then (unf (gotOf s a.toNat).u, a + (gotOf s a.toNat).used, 0) else (0, 0, (gotOf s a.toNat).code)
    else (0, 0, 1)
  else (0, 0, 2)
theorem getV_gN (s : ByteArray) (a : Int) : getV s a = numV (gN s a).1 (gN s a).2.1 (gN s a).2.2 := by
  unfold getV gN
  split
  · split
    · split <;> rfl
    · rfl
  · rfl
theorem gN_ok {s : ByteArray} {a : Int} (h : (gN s a).2.2 = 0) : 0 ≤ a ∧ a ≤ (gN s a).2.1 ∧ (gN s a).2.1 ≤ s.size ∧ s.size ≤ 8000 := by
  unfold gN at h ⊢
  by_cases hs : s.size ≤ 8000
  · rw [if_pos hs] at h ⊢
    by_cases h0 : 0 ≤ a
    · rw [if_pos h0] at h ⊢
      obtain ⟨k, rfl⟩ := Int.eq_ofNat_of_zero_le h0
      rw [Int.toNat_natCast] at h ⊢
      by_cases hc : (gotOf s k).code = 0
      · rw [if_pos hc] at h ⊢
        obtain ⟨c, y, n, hgot⟩ : ∃ c y n, gotOf s k = ⟨c, y, n⟩ := ⟨_, _, _, rfl⟩
        rw [hgot] at hc ⊢
        simp only at hc
        subst hc
        have := got_end hgot
        simp only
        omega
      · rw [if_neg hc] at h
        exact absurd h hc
    · rw [if_neg h0] at h; simp at h
  · rw [if_neg hs] at h; simp at h
/-- GetText's three -/
def gT (s : ByteArray) (a : Int) : ByteArray × Int × Int :=
  if (gN s a).2.2 = 0 then
    if 0 ≤ (gN s a).1 ∧ (gN s a).1 ≤ 8000 then
      if (gN s a).2.1 + (gN s a).1 ≤ s.size then (s.extract (gN s a).2.1.toNat ((gN s a).2.1 + (gN s a).1).toNat, (gN s a).2.1 + (gN s a).1, 0) else ({ data := #[] }, 0, 4)
    else ({ data := #[] }, 0, 3)
  else ({ data := #[] }, 0, (gN s a).2.2)
theorem textOf_gT (s : ByteArray) (a : Int) : textOf s (gN s a).1 (gN s a).2.1 (gN s a).2.2 = txtV (gT s a).1 (gT s a).2.1 (gT s a).2.2 := by
  unfold textOf gT
  split
  · split
    · split <;> rfl
    · rfl
  · rfl
theorem gT_ok {s : ByteArray} {a : Int} (h : (gT s a).2.2 = 0) : 0 ≤ a ∧ s.size ≤ 8000 ∧ (gT s a).1.size ≤ 8000 ∧ a + (gT s a).1.size ≤ (gT s a).2.1 ∧ (gT s a).2.1 ≤ s.size := by
  unfold gT at h ⊢
  by_cases hc : (gN s a).2.2 = 0
  · rw [if_pos hc] at h ⊢
    obtain ⟨h0, h1, h2, h3⟩ := gN_ok hc
    by_cases hn : 0 ≤ (gN s a).1 ∧ (gN s a).1 ≤ 8000
    · rw [if_pos hn] at h ⊢
      by_cases he : (gN s a).2.1 + (gN s a).1 ≤ s.size
      · rw [if_pos he]
        simp only [ByteArray.size_extract]
        omega
      · rw [if_neg he] at h; simp at h
    · rw [if_neg hn] at h; simp at h
  · rw [if_neg hc] at h
    exact absurd h hc
theorem gT_size (s : ByteArray) (a : Int) : (gT s a).1.size ≤ 8000 := by
  have h0 : (ByteArray.mk #[]).size ≤ 8000 := by decide
  by_cases h : (gT s a).2.2 = 0
  · exact (gT_ok h).2.2.1
  · unfold gT at h ⊢
    split
    · rename_i hc
      rw [if_pos hc] at h
      split
      · rename_i hn
        rw [if_pos hn] at h
        split
        · rename_i he
          rw [if_pos he] at h
          exact absurd rfl h
        · exact h0
      · exact h0
    · exact h0
/-- the byte number i of a text -/
def bt (u : ByteArray) (i : Nat) : Int := ((u.data.toList.getD i 0).toNat : Int)
theorem bt_at {u : ByteArray} {i : Nat} (h : i < u.size) : (u[i].toNat : Int) = bt u i := by
  unfold bt
  have h2 : i < u.data.toList.length := by simpa using h
  rw [List.getD_eq_getElem?_getD, List.getElem?_eq_getElem h2]
  rfl
theorem bt_bd (u : ByteArray) (i : Nat) : 0 ≤ bt u i ∧ bt u i < 256 := by
  unfold bt
  have := (u.data.toList.getD i 0).toNat_lt
  omega
/-- the number of the first four bytes -/
def fourN (u : ByteArray) : Int := bt u 0 + 256 * bt u 1 + 65536 * bt u 2 + 16777216 * bt u 3
theorem fourN_bd (u : ByteArray) : 0 ≤ fourN u ∧ fourN u ≤ 4294967295 := by
  have h0 := bt_bd u 0
  have h1 := bt_bd u 1
  have h2 := bt_bd u 2
  have h3 := bt_bd u 3
  unfold fourN
  omega
/-- what stands behind them -/
def restF (u : ByteArray) : ByteArray := u.extract 4 u.size
theorem restF_size {u : ByteArray} : (restF u).size = u.size - 4 := by unfold restF; simp
abbrev FrO : Type := (Int × ByteArray) × Int × Int
def badF (c : Int) : FrO := ((0, { data := #[] }), 0, c)
/-- FrameRead's answer -/
def frR (s : ByteArray) (a : Int) : FrO :=
  if (gT s a).2.2 = 0 then
    if unsealE (gT s a).1 = 0 then
      if 4 ≤ (unsealT (gT s a).1).size then
        if frB (fourN (unsealT (gT s a).1)) (restF (unsealT (gT s a).1)) = true then ((fourN (unsealT (gT s a).1), restF (unsealT (gT s a).1)), (gT s a).2.1, 0)
        else badF 3
      else badF 3
    else badF (unsealE (gT s a).1)
  else badF (gT s a).2.2
theorem frR_text {s : ByteArray} {a : Int} (h : ¬ (gT s a).2.2 = 0) : frR s a = badF (gT s a).2.2 := if_neg h
theorem frR_seal {s : ByteArray} {a : Int} (h : (gT s a).2.2 = 0) (h1 : ¬ unsealE (gT s a).1 = 0) : frR s a = badF (unsealE (gT s a).1) := by unfold frR; rw [if_pos h, if_neg h1]
theorem frR_short {s : ByteArray} {a : Int} (h : (gT s a).2.2 = 0) (h1 : unsealE (gT s a).1 = 0) (h2 : ¬ 4 ≤ (unsealT (gT s a).1).size) : frR s a = badF 3 := by unfold frR; rw [if_pos h, if_pos h1, if_neg h2]
theorem frR_ill {s : ByteArray} {a : Int} (h : (gT s a).2.2 = 0) (h1 : unsealE (gT s a).1 = 0) (h2 : 4 ≤ (unsealT (gT s a).1).size) (h3 : frB (fourN (unsealT (gT s a).1)) (restF (unsealT (gT s a).1)) = false) : frR s a = badF 3 := by unfold frR; rw [if_pos h, if_pos h1, if_pos h2, if_neg (by simp [h3])]
theorem frR_yes {s : ByteArray} {a : Int} (h : (gT s a).2.2 = 0) (h1 : unsealE (gT s a).1 = 0) (h2 : 4 ≤ (unsealT (gT s a).1).size) (h3 : frB (fourN (unsealT (gT s a).1)) (restF (unsealT (gT s a).1)) = true) : frR s a = ((fourN (unsealT (gT s a).1), restF (unsealT (gT s a).1)), (gT s a).2.1, 0) := by unfold frR; rw [if_pos h, if_pos h1, if_pos h2, if_pos h3]
theorem unsealE_zero {s : ByteArray} (h : unsealE s = 0) : s.size ≤ 8000 ∧ 4 ≤ s.size ∧ (fourS (crcOf (bodyOf s) 0)).toList = (tailOf s).toList ∧ unsealT s = bodyOf s := by
  unfold unsealE at h
  split at h
  · split at h
    · split at h
      · rename_i h1 h2 h3
        exact ⟨h1, h2, h3, by unfold unsealT; rw [if_pos ⟨h1, h2, h3⟩]⟩
      · exact absurd h (by decide)
    · exact absurd h (by decide)
  · exact absurd h (by decide)
theorem unsealT_size (s : ByteArray) (h : s.size ≤ 8000) : (unsealT s).size ≤ 8000 := by
  unfold unsealT
  split
  · rw [body_size]; omega
  · decide
/-- what a read frame is: right; its end is behind its beginning and within the log -/
theorem frR_ok {s : ByteArray} {a : Int} (h : (frR s a).2.2 = 0) : 0 ≤ a ∧ a + 8 ≤ (frR s a).2.1 ∧ (frR s a).2.1 ≤ s.size ∧ s.size ≤ 8000 ∧ frB (frR s a).1.1 (frR s a).1.2 = true := by
  by_cases h0 : (gT s a).2.2 = 0
  · by_cases h1 : unsealE (gT s a).1 = 0
    · by_cases h2 : 4 ≤ (unsealT (gT s a).1).size
      · cases h3 : frB (fourN (unsealT (gT s a).1)) (restF (unsealT (gT s a).1)) with
        | true =>
          rw [frR_yes h0 h1 h2 h3]
          obtain ⟨k0, k1, k2, k3, k4⟩ := gT_ok h0
          obtain ⟨_, u1, _, u2⟩ := unsealE_zero h1
          rw [u2, body_size] at h2
          refine ⟨k0, by simp only; omega, k4, k1, h3⟩
        | false => rw [frR_ill h0 h1 h2 h3] at h; exact absurd h (by decide)
      · rw [frR_short h0 h1 h2] at h; exact absurd h (by decide)
    · rw [frR_seal h0 h1] at h; exact absurd h h1
  · rw [frR_text h0] at h; exact absurd h h0
theorem frR_bad {s : ByteArray} {a : Int} (h : ¬ (frR s a).2.2 = 0) : frR s a = badF (frR s a).2.2 := by
  by_cases h0 : (gT s a).2.2 = 0
  · by_cases h1 : unsealE (gT s a).1 = 0
    · by_cases h2 : 4 ≤ (unsealT (gT s a).1).size
      · cases h3 : frB (fourN (unsealT (gT s a).1)) (restF (unsealT (gT s a).1)) with
        | true => rw [frR_yes h0 h1 h2 h3] at h; exact absurd rfl h
        | false => rw [frR_ill h0 h1 h2 h3]; rfl
      · rw [frR_short h0 h1 h2]; rfl
    · rw [frR_seal h0 h1]; rfl
  · rw [frR_text h0]; rfl
theorem frR_size (s : ByteArray) (a : Int) : (frR s a).1.2.size ≤ 2980 := by
  by_cases h : (frR s a).2.2 = 0
  · exact (frB_iff.1 (frR_ok h).2.2.2.2).2
  · rw [frR_bad h]
    show (ByteArray.mk #[]).size ≤ 2980
    decide
/-- the frames of a log, from a on, of greater numbers than l -/
def logGo (s : ByteArray) : Nat → Int → Int → List (Int × ByteArray) × Int
  | 0, a, _ => ([], a)
  | k + 1, a, l => if (frR s a).2.2 = 0 ∧ l < (frR s a).1.1 then ((frR s a).1 :: (logGo s k (frR s a).2.1 (frR s a).1.1).1, (logGo s k (frR s a).2.1 (frR s a).1.1).2) else ([], a)
theorem logGo_no {s : ByteArray} {k : Nat} {a l : Int} (h : ¬ ((frR s a).2.2 = 0 ∧ l < (frR s a).1.1)) : logGo s k a l = ([], a) := by
  cases k with
  | zero => rfl
  | succ k => rw [logGo, if_neg h]
theorem logGo_yes {s : ByteArray} {k : Nat} {a l : Int} (h : (frR s a).2.2 = 0 ∧ l < (frR s a).1.1) : logGo s (k + 1) a l = ((frR s a).1 :: (logGo s k (frR s a).2.1 (frR s a).1.1).1, (logGo s k (frR s a).2.1 (frR s a).1.1).2) := by rw [logGo, if_pos h]
/-- behind the end nothing is read -/
theorem frR_end {s : ByteArray} {a : Int} (h : (s.size : Int) ≤ a) : ¬ (frR s a).2.2 = 0 := fun hc => by
  have := frR_ok hc
  omega
abbrev LgO : Type := List (Int × ByteArray) × Int × Int
/-- LogRead's answer -/
def logR (s : ByteArray) : LgO := if s.size ≤ 8000 then ((logGo s (s.size + 1) 0 (-1)).1, (logGo s (s.size + 1) 0 (-1)).2, 0) else ([], 0, 2)
/-- under way: L read, the next one at a, behind number l -/
def LogAt (s : ByteArray) (L : List (Int × ByteArray)) (a l : Int) : Prop := ∃ k : Nat, (s.size : Int) + 1 ≤ k + a ∧ L ++ (logGo s k a l).1 = (logR s).1 ∧ (logGo s k a l).2 = (logR s).2.1
theorem LogAt.start {s : ByteArray} (h : s.size ≤ 8000) : LogAt s [] 0 (-1) := ⟨s.size + 1, by omega, by unfold logR; rw [if_pos h]; rfl, by unfold logR; rw [if_pos h]⟩
theorem LogAt.step {s : ByteArray} {L : List (Int × ByteArray)} {a l : Int} (h : LogAt s L a l) (h1 : (frR s a).2.2 = 0) (h2 : l < (frR s a).1.1) : LogAt s (L ++ [(frR s a).1]) (frR s a).2.1 (frR s a).1.1 := by
  obtain ⟨k, hk, e1, e2⟩ := h
  have ho := frR_ok h1
  cases k with
  | zero => omega
  | succ k =>
    rw [logGo_yes ⟨h1, h2⟩] at e1 e2
    exact ⟨k, by omega, by rw [← e1]; simp, e2⟩
theorem LogAt.stop {s : ByteArray} {L : List (Int × ByteArray)} {a l : Int} (h : LogAt s L a l) (hs : s.size ≤ 8000) (h1 : ¬ ((frR s a).2.2 = 0 ∧ l < (frR s a).1.1)) : logR s = (L, a, 0) := by
  obtain ⟨k, hk, e1, e2⟩ := h
  rw [logGo_no h1, List.append_nil] at e1
  rw [logGo_no h1] at e2
  have e3 : (logR s).2.2 = 0 := by unfold logR; rw [if_pos hs]
  rw [show logR s = ((logR s).1, (logR s).2.1, (logR s).2.2) from rfl, ← e1, ← e2, e3]
theorem logR_big {s : ByteArray} (h : ¬ s.size ≤ 8000) : logR s = ([], 0, 2) := if_neg h
/-- few frames, short ones -/
theorem logGo_small (s : ByteArray) : ∀ (k : Nat) (a l : Int), (∀ f ∈ (logGo s k a l).1, frB f.1 f.2 = true) ∧ (8 * ((logGo s k a l).1.length : Int) ≤ (logGo s k a l).2 - a) ∧ (a ≤ s.size → (logGo s k a l).2 ≤ s.size)
  | 0, a, l => ⟨fun f hf => (by cases hf), by simp [logGo], fun h => h⟩
  | k + 1, a, l => by
    by_cases h : (frR s a).2.2 = 0 ∧ l < (frR s a).1.1
    · obtain ⟨h1, h2, h3⟩ := logGo_small s k (frR s a).2.1 (frR s a).1.1
      have ho := frR_ok h.1
      rw [logGo_yes h]
      refine ⟨fun f hf => ?_, ?_, fun _ => h3 ho.2.2.1⟩
      · rcases List.mem_cons.1 hf with rfl | hf
        · exact ho.2.2.2.2
        · exact h1 f hf
      · simp only [List.length_cons]
        omega
    · rw [logGo_no h]
      exact ⟨fun f hf => (by cases hf), by simp, fun h => h⟩
theorem logR_small (s : ByteArray) : (∀ f ∈ (logR s).1, frB f.1 f.2 = true) ∧ (logR s).1.length ≤ 1000 ∧ 0 ≤ (logR s).2.1 ∧ (logR s).2.1 ≤ s.size := by
  by_cases h : s.size ≤ 8000
  · unfold logR
    rw [if_pos h]
    obtain ⟨h1, h2, h3⟩ := logGo_small s (s.size + 1) 0 (-1)
    have h4 := h3 (by omega)
    exact ⟨h1, by simp only; omega, by simp only; omega, h4⟩
  · rw [logR_big h]
    exact ⟨fun f hf => (by cases hf), by decide, by decide, by simp⟩
theorem logAt_small {s : ByteArray} {L : List (Int × ByteArray)} {a l : Int} (h : LogAt s L a l) : L.length ≤ 1000 ∧ (∀ f ∈ L, frB f.1 f.2 = true) := by
  obtain ⟨k, hk, e1, e2⟩ := h
  obtain ⟨h1, h2, _⟩ := logR_small s
  have := congrArg List.length e1
  rw [List.length_append] at this
  exact ⟨by omega, fun f hf => h1 f (by rw [← e1]; exact List.mem_append_left _ hf)⟩
end Go.Proofs.YtdedomfocljhaaaGreatDoor.FrC
