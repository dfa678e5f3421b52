/- GetText, in the program and in its model: contracts; the law on GetText. -/
import Derived.Test.YtdedomfocljhaaaGreatDoorGetImpl
import Derived.Test.YtdedomfocljhaaaGreatDoorClone
import Derived.RegionTactic
import Derived.IntWalk
import Derived.Deep.RegionWith
namespace Go.Proofs.YtdedomfocljhaaaGreatDoor.GetC
open Go.RowKit GetM AsC

/-- a TextOut -/
def txtV (t : ByteArray) (a c : Int) : Value := .agg #[.string t, .int .i64 a, .int .i64 c]
/-- GetText's answer, where GetNum's is (n, p, c) -/
def textOf (s : ByteArray) (n p c : Int) : Value :=
  if c = 0 then
    if 0 ≤ n ∧ n ≤ 8000 then
      if p + n ≤ s.size then txtV (s.extract p.toNat (p + n).toNat) (p + n) 0 else txtV { data := #[] } 0 4
    else txtV { data := #[] } 0 3
  else txtV { data := #[] } 0 c
theorem textOf_bad {s : ByteArray} {n p c : Int} (h : ¬ c = 0) : textOf s n p c = txtV { data := #[] } 0 c := by unfold textOf; rw [if_neg h]
theorem textOf_range {s : ByteArray} {n p : Int} (h : ¬ (0 ≤ n ∧ n ≤ 8000)) : textOf s n p 0 = txtV { data := #[] } 0 3 := by unfold textOf; rw [if_pos rfl, if_neg h]
theorem textOf_short {s : ByteArray} {n p : Int} (h : 0 ≤ n ∧ n ≤ 8000) (h2 : ¬ p + n ≤ s.size) : textOf s n p 0 = txtV { data := #[] } 0 4 := by unfold textOf; rw [if_pos rfl, if_pos h, if_neg h2]
theorem textOf_ok {s : ByteArray} {n p : Int} (h : 0 ≤ n ∧ n ≤ 8000) (h2 : p + n ≤ s.size) : textOf s n p 0 = txtV (s.extract p.toNat (p + n).toNat) (p + n) 0 := by unfold textOf; rw [if_pos rfl, if_pos h, if_pos h2]

/-- what is known of GetNum's answer -/
theorem getV_parts (s : ByteArray) (a : Int) (ha : a ≤ 9223372036854775807) : ∃ n p c, getV s a = numV n p c ∧ (c = 0 → 0 ≤ p ∧ p ≤ s.size ∧ s.size ≤ 8000) := by
  by_cases hs : s.size ≤ 8000
  · by_cases h0 : 0 ≤ a
    · obtain ⟨k, rfl⟩ := Int.eq_ofNat_of_zero_le h0
      obtain ⟨c, y, n, hgot⟩ : ∃ c y n, gotOf s k = ⟨c, y, n⟩ := ⟨_, _, _, rfl⟩
      have hg := got_bd s k
      rw [hgot] at hg
      simp only at hg
      by_cases hc : c = 0
      · subst hc
        have := got_end hgot
        exact ⟨_, _, _, getV_ok hs hgot, fun _ => ⟨by omega, by omega, hs⟩⟩
      · obtain ⟨rfl, rfl⟩ := hg.2.2.2 hc
        exact ⟨_, _, _, getV_bad hs hc hgot, fun h => absurd h hc⟩
    · exact ⟨0, 0, 1, by unfold getV; rw [if_pos hs, if_neg h0], fun h => by omega⟩
  · exact ⟨0, 0, 2, by unfold getV; rw [if_neg hs], fun h => by omega⟩

theorem cut_mid (s : ByteArray) (p e : Int) (h0 : 0 ≤ p) (h1 : p ≤ e) (h2 : e ≤ s.size) (w : World) : (Instr.slice 9 (.string s) (some (.int .i64 p)) (some (.int .i64 e)) none).run Tryz.prog w = .ok (.string (s.extract p.toNat e.toNat)) w := by
  rw [run_slice_string w 9 s .i64 .i64 p e Tryz.underlying9 (by omega) (by omega) (by omega)]

theorem below_struct {w w1 : World} (h : Below w.heap.size w w1) (x y z : Value) (o : Obj) :
    Below w.heap.size w ((((w1.setCell ⟨w.heap.size, 0, none⟩ x).setCell ⟨w.heap.size, 1, none⟩ y).setCell ⟨w.heap.size, 2, none⟩ z).alloc o) := by
  have h3 := ((h.setCell (p := ⟨w.heap.size, 0, none⟩) (Nat.le_refl _) x).setCell (p := ⟨w.heap.size, 1, none⟩) (Nat.le_refl _) y).setCell (p := ⟨w.heap.size, 2, none⟩) (Nat.le_refl _) z
  exact h3.alloc h3.size _

set_option maxRecDepth 100000 in
set_option maxHeartbeats 1000000 in
theorem text_spec (s : ByteArray) (a n p c : Int) (w : World) (hs : s.size ≤ 9223372036854775807)
    (HS : ∀ w, Calls Tryz.prog 69 #[.string s, .int .i64 a] w fun e w' => e = .returned (numV n p c) ∧ Below w.heap.size w w')
    (hp : c = 0 → 0 ≤ p ∧ p ≤ s.size ∧ s.size ≤ 8000) :
    Calls Tryz.prog 60 #[.string s, .int .i64 a] w fun e w' => e = .returned (textOf s n p c) ∧ Below w.heap.size w w' := by
  have HP := Lib.hid hp
  have HN := Lib.hid HS
  clear hp HS
  go_enter Tryz.func60, Tryz.ntmps60
  go_wp2_with fail
  refine (HN.out _).mono ?_
  unfold numV
  rintro e w1 ⟨rfl, hb1⟩
  have ⟨d0, d1, d2⟩ := cellsN hb1 (a := .string { data := #[] }) (b := .int .i64 0) (c := .int .i64 0) (B := w.heap.size) (by simp) (by simp) (by simp)
  have f0 := hb1.frozen (p := ⟨w.heap.size, 0, none⟩) (by simp)
  have f1 := hb1.frozen (p := ⟨w.heap.size, 1, none⟩) (by simp)
  have f2 := hb1.frozen (p := ⟨w.heap.size, 2, none⟩) (by simp)
  simp at f0 f1 f2
  have hz : w.heap.size < w1.heap.size := by have := hb1.size; simp at this; omega
  have HB : Hid (Below w.heap.size w w1) := Lib.hid (((Below.refl _ _).alloc (Nat.le_refl _) _).trans (hb1.mono (by simp)))
  clear hb1
  by_cases hc : c = 0
  · subst hc
    obtain ⟨p0, p1, hs8⟩ := HP.out rfl
    by_cases hn : 0 ≤ n ∧ n ≤ 8000
    · obtain ⟨n0, n1⟩ := hn
      by_cases he : p + n ≤ s.size
      · have HF := Lib.hid (textOf_ok ⟨n0, n1⟩ he)
        have hcut := cut_mid s p (p + n) p0 (by omega) he
        have hw : IntKind.i64.wrap (p + n) = p + n := IntWalk.i64_in _ (by omega)
        generalize s.extract p.toNat (p + n).toNat = t at *
        go_wp2
        go_region
        all_goals go_wp2
        all_goals exact bodyPost_ret (v := txtV t (p + n) 0) (by simp [results, Tryz.results60, go_sem, txtV, d0, d1, d2, hz]) rfl ⟨ret_v HF.out.symm, (below_struct HB.out _ _ _ _).drew⟩
      · have HF := Lib.hid (textOf_short (s := s) ⟨n0, n1⟩ he)
        go_wp2
        exact bodyPost_ret (v := txtV { data := #[] } 0 4) (by simp [results, Tryz.results60, go_sem, txtV, d0, d1, d2, hz]) rfl ⟨ret_v HF.out.symm, below_struct HB.out _ _ _ _⟩
    · have HF := Lib.hid (textOf_range (s := s) (p := p) hn)
      by_cases n0 : n < 0
      · go_wp2
        exact bodyPost_ret (v := txtV { data := #[] } 0 3) (by simp [results, Tryz.results60, go_sem, txtV, d0, d1, d2, hz]) rfl ⟨ret_v HF.out.symm, below_struct HB.out _ _ _ _⟩
      · have n1 : 8000 < n := by omega
        clear hn
        go_wp2
        exact bodyPost_ret (v := txtV { data := #[] } 0 3) (by simp [results, Tryz.results60, go_sem, txtV, d0, d1, d2, hz]) rfl ⟨ret_v HF.out.symm, below_struct HB.out _ _ _ _⟩
  · have HF := Lib.hid (textOf_bad (s := s) (n := n) (p := p) hc)
    go_wp2
    exact bodyPost_ret (v := txtV { data := #[] } 0 c) (by simp [results, Tryz.results60, go_sem, txtV, d0, d1, d2, hz]) rfl ⟨ret_v HF.out.symm, below_struct HB.out _ _ _ _⟩

set_option maxRecDepth 100000 in
set_option maxHeartbeats 1000000 in
theorem text_impl (s : ByteArray) (a n p c : Int) (w : World) (hs : s.size ≤ 9223372036854775807) (hD : Door w)
    (HS : ∀ w, Door w → Calls Tryz.prog 77 #[.string s, .int .i64 a] w fun e w' => e = .returned (numV n p c) ∧ Below w.heap.size w w')
    (hp : c = 0 → 0 ≤ p ∧ p ≤ s.size ∧ s.size ≤ 8000) :
    Calls Tryz.prog 73 #[.string s, .int .i64 a] w fun e w' => e = .returned (textOf s n p c) ∧ Below w.heap.size w w' := by
  have HP := Lib.hid hp
  have HN := Lib.hid HS
  clear hp HS
  go_enter Tryz.func73, Tryz.ntmps73
  go_wp2_with fail
  refine (HN.out _ (hD.alloc _)).mono ?_
  unfold numV
  rintro e w1 ⟨rfl, hb1⟩
  have ⟨d0, d1, d2⟩ := cellsN hb1 (a := .string { data := #[] }) (b := .int .i64 0) (c := .int .i64 0) (B := w.heap.size) (by simp) (by simp) (by simp)
  have f0 := hb1.frozen (p := ⟨w.heap.size, 0, none⟩) (by simp)
  have f1 := hb1.frozen (p := ⟨w.heap.size, 1, none⟩) (by simp)
  have f2 := hb1.frozen (p := ⟨w.heap.size, 2, none⟩) (by simp)
  simp at f0 f1 f2
  have hz : w.heap.size < w1.heap.size := by have := hb1.size; simp at this; omega
  have HB : Hid (Below w.heap.size w w1) := Lib.hid (((Below.refl _ _).alloc (Nat.le_refl _) _).trans (hb1.mono (by simp)))
  clear hb1
  by_cases hc : c = 0
  · subst hc
    obtain ⟨p0, p1, hs8⟩ := HP.out rfl
    by_cases hn : 0 ≤ n ∧ n ≤ 8000
    · obtain ⟨n0, n1⟩ := hn
      by_cases he : p + n ≤ s.size
      · have HF := Lib.hid (textOf_ok ⟨n0, n1⟩ he)
        have hcut := cut_mid s p (p + n) p0 (by omega) he
        have ht : (s.extract p.toNat (p + n).toNat).size ≤ 8000 := by rw [ByteArray.size_extract]; omega
        generalize s.extract p.toNat (p + n).toNat = t at *
        go_wp2_with fail
        refine (CloneC.clone_any _ _ ht).mono ?_
        rintro e w2 ⟨rfl, hb2⟩
        have ⟨x0, x1, x2⟩ := cellsN hb2 (a := .string { data := #[] }) (b := .int .i64 0) (c := .int .i64 0) (B := w.heap.size) ((World.cell?_alloc_lt _ _ _ hz).trans d0) ((World.cell?_alloc_lt _ _ _ hz).trans d1) ((World.cell?_alloc_lt _ _ _ hz).trans d2)
        have y0 := ((hb2.frozen (p := ⟨w.heap.size, 0, none⟩) (by simp; omega)).trans (World.frozen?_alloc_old _ _ _ (Nat.ne_of_lt hz))).trans f0
        have y1 := ((hb2.frozen (p := ⟨w.heap.size, 1, none⟩) (by simp; omega)).trans (World.frozen?_alloc_old _ _ _ (Nat.ne_of_lt hz))).trans f1
        have y2 := ((hb2.frozen (p := ⟨w.heap.size, 2, none⟩) (by simp; omega)).trans (World.frozen?_alloc_old _ _ _ (Nat.ne_of_lt hz))).trans f2
        have HB2 : Hid (Below w.heap.size w w2) := Lib.hid ((HB.out.alloc HB.out.size _).trans (hb2.mono (by simp; omega)))
        clear hb2
        go_wp2
        exact bodyPost_ret (v := txtV t (p + n) 0) (by simp [results, Tryz.results73, go_sem, txtV, x0, x1, x2]) rfl ⟨ret_v HF.out.symm, ((HB2.out.setCell (Nat.le_refl _) _).setCell (Nat.le_refl _) _).setCell (Nat.le_refl _) _⟩
      · have HF := Lib.hid (textOf_short (s := s) ⟨n0, n1⟩ he)
        go_wp2
        exact bodyPost_ret (v := txtV { data := #[] } 0 4) (by simp [results, Tryz.results73, go_sem, txtV, d0, d1, d2, hz]) rfl ⟨ret_v HF.out.symm, below_struct HB.out _ _ _ _⟩
    · have HF := Lib.hid (textOf_range (s := s) (p := p) hn)
      by_cases n0 : n < 0
      · go_wp2
        exact bodyPost_ret (v := txtV { data := #[] } 0 3) (by simp [results, Tryz.results73, go_sem, txtV, d0, d1, d2, hz]) rfl ⟨ret_v HF.out.symm, below_struct HB.out _ _ _ _⟩
      · have n1 : 8000 < n := by omega
        clear hn
        go_wp2
        exact bodyPost_ret (v := txtV { data := #[] } 0 3) (by simp [results, Tryz.results73, go_sem, txtV, d0, d1, d2, hz]) rfl ⟨ret_v HF.out.symm, below_struct HB.out _ _ _ _⟩
  · have HF := Lib.hid (textOf_bad (s := s) (n := n) (p := p) hc)
    go_wp2
    exact bodyPost_ret (v := txtV { data := #[] } 0 c) (by simp [results, Tryz.results73, go_sem, txtV, d0, d1, d2, hz]) rfl ⟨ret_v HF.out.symm, below_struct HB.out _ _ _ _⟩

theorem textOf_parts (s : ByteArray) (n p c : Int) : ∃ t q d, textOf s n p c = txtV t q d := by
  unfold textOf
  split
  · split
    · split
      · exact ⟨_, _, _, rfl⟩
      · exact ⟨_, _, _, rfl⟩
    · exact ⟨_, _, _, rfl⟩
  · exact ⟨_, _, _, rfl⟩

end Go.Proofs.YtdedomfocljhaaaGreatDoor.GetC
