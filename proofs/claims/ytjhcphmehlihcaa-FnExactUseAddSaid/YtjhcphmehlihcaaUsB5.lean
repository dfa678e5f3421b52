/- UseAdd of the program: a contract. -/
import Derived.Test.YtjhcphmehlihcaaTk
import Derived.Test.YtjhcphmehlihcaaUsB3
import Derived.Test.YtjhcphmehlihcaaUsB4
namespace Go.Proofs.Ytjhcphmehlihcaa.RepC
open Go.RowKit RowC ValC SpanC KeptC NameC SortC Go.ChangeShapes Go.Maps
set_option linter.unusedVariables false
set_option linter.unusedSimpArgs false
set_option maxRecDepth 100000

set_option maxHeartbeats 6400000 in
theorem add_impl {L : List D_Use} {a : Option Addr} {cap : Nat} {l0 l1 n : Int} {s : ByteArray} {W : World} (hn : L.length ≤ 1048576) (hs : ∀ x ∈ L, x.2.1.size ≤ 1048576) (h : RdSl R_Use W W.heap.size L a cap) (hw : WfA ((l0, l1), s)) :
    Calls Try.prog 11 #[.slice a L.length cap, .agg #[.int .i64 l0, .int .i64 l1], .string s, .int .i64 n] W (NewS R_Use (addV L ((l0, l1), s) n) W) := by
  have hsl : s.size ≤ maxLen := hw.2.2
  have hsl2 : s.size ≤ 9223372036854775807 := by unfold maxLen at hsl; omega
  have HW := Lib.hid hw
  have HSL := Lib.hid hsl
  have HCP := Lib.hid (fun (w : World) (hb : Below W.heap.size W w) => copy_impl hn hs ((h.below R_Use_ok hb).more R_Use_ok hb.size))
  have H := Lib.hid h
  clear hs h hw hsl
  obtain ⟨w0, hw0⟩ : ∃ w, w = W.alloc (.cells #[.int .i64 l0, .int .i64 l1] 25) := ⟨_, rfl⟩
  have HB0 := Lib.hid (show Below W.heap.size W w0 from by rw [hw0]; exact (Below.refl _ _).alloc (Nat.le_refl _) _)
  have HP0 := Lib.hid (show Blk w0 W.heap.size 25 #[.int .i64 l0, .int .i64 l1] from by rw [hw0]; exact Blk.new _ _ _)
  by_cases hbig : 400 < L.length ∨ 8000 < s.size
  · have HE := Lib.hid (addV_big (L := L) (a := ((l0, l1), s)) (n := n) hbig)
    have HD := Lib.hid hbig
    cases h4 : decide ((400 : Int) < (L.length : Int)) with
    | true =>
      clear hbig
      go_enter Try.func11, Try.ntmps11
      subst hw0
      go_wp2
      go_ret
      rw [HE.out]
      exact ⟨none, 0, rfl, ⟨Nat.le_refl _, Nat.zero_le _, fun h => absurd h (Nat.lt_irrefl _)⟩, HB0.out⟩
    | false =>
      have h8 : decide ((8000 : Int) < (s.size : Int)) = true := decide_eq_true (by have := of_decide_eq_false h4; omega)
      clear hbig
      go_enter Try.func11, Try.ntmps11
      subst hw0
      go_wp2
      go_ret
      rw [HE.out]
      exact ⟨none, 0, rfl, ⟨Nat.le_refl _, Nat.zero_le _, fun h => absurd h (Nat.lt_irrefl _)⟩, HB0.out⟩
  have h4 : L.length ≤ 400 := by omega
  have h8 : s.size ≤ 8000 := by omega
  have d4 : decide ((400 : Int) < (L.length : Int)) = false := decide_eq_false (by omega)
  have d8 : decide ((8000 : Int) < (s.size : Int)) = false := decide_eq_false (by omega)
  clear hbig
  have p0 := HP0.out.at_ 0 rfl
  have p1 := HP0.out.at_ 1 rfl
  have H0 := Lib.hid ((H.out.below R_Use_ok HB0.out).more R_Use_ok HB0.out.size)
  go_enter Try.func11, Try.ntmps11
  go_wp2_with fail
  rw [← hw0]
  clear hw0
  refine (uses_impl H0.out).mono ?_
  intro e w1 h
  obtain ⟨rfl, hb⟩ := isB_elim h
  have HB1 := Lib.hid (HB0.out.trans (hb.mono HB0.out.size))
  have HP1 := Lib.hid (HP0.out.call hb)
  clear h hb p0 p1
  have p0 := HP1.out.at_ 0 rfl
  have p1 := HP1.out.at_ 1 rfl
  cases hq : usesB L with
  | false =>
    have HE := Lib.hid (addV_no (L := L) (a := ((l0, l1), s)) (n := n) h4 h8 (fun h => by have := h.1; rw [hq] at this; cases this))
    go_wp2_with fail
    refine (HCP.out _ HB1.out).mono ?_
    intro e w9 h
    obtain ⟨a', c', rfl, ho, hb⟩ := newS_elim h
    have HQ := Lib.hid ho
    have HB9 := Lib.hid (HB1.out.trans (hb.mono HB1.out.size))
    have hz9 := HB1.out.size
    clear h ho hb
    go_wp2
    go_ret
    rw [HE.out]
    exact ⟨a', c', rfl, HQ.out.more fun k hk => ⟨Nat.le_trans hz9 hk.1, hk.2⟩, HB9.out⟩
  | true =>
  have HR := Lib.hid (usesB_iff.1 hq)
  have HQ1 := Lib.hid hq
  clear hq
  go_wp2_with fail
  refine (LabC.ri_w l0 l1 _).mono ?_
  rintro e w2 ⟨rfl, hb⟩
  have HB2 := Lib.hid (HB1.out.trans (hb.mono HB1.out.size))
  have HP2 := Lib.hid (HP1.out.call hb)
  clear hb p0 p1
  have p0 := HP2.out.at_ 0 rfl
  have p1 := HP2.out.at_ 1 rfl
  cases h1 : LabC.rB l0 l1 with
  | false =>
    have HE := Lib.hid (addV_no (L := L) (a := ((l0, l1), s)) (n := n) h4 h8 (fun h => by have := h.2.1; rw [show LabC.rB ((l0, l1), s).1.1 ((l0, l1), s).1.2 = LabC.rB l0 l1 from rfl, h1] at this; cases this))
    go_wp2_with fail
    refine (HCP.out _ HB2.out).mono ?_
    intro e w9 h
    obtain ⟨a', c', rfl, ho, hb⟩ := newS_elim h
    have HQ := Lib.hid ho
    have HB9 := Lib.hid (HB2.out.trans (hb.mono HB2.out.size))
    have hz9 := HB2.out.size
    clear h ho hb
    go_wp2
    go_ret
    rw [HE.out]
    exact ⟨a', c', rfl, HQ.out.more fun k hk => ⟨Nat.le_trans hz9 hk.1, hk.2⟩, HB9.out⟩
  | true =>
  have HQ2 := Lib.hid h1
  clear h1
  go_wp2_with fail
  refine (ni_w s HSL.out _).mono ?_
  rintro e w3 ⟨rfl, hb⟩
  have HB3 := Lib.hid (HB2.out.trans (hb.mono HB2.out.size))
  have HP3 := Lib.hid (HP2.out.call hb)
  clear hb p0 p1
  have p0 := HP3.out.at_ 0 rfl
  have p1 := HP3.out.at_ 1 rfl
  cases h2 : nameB s with
  | false =>
    have HE := Lib.hid (addV_no (L := L) (a := ((l0, l1), s)) (n := n) h4 h8 (fun h => by have := h.2.2.1; rw [show nameB ((l0, l1), s).2 = nameB s from rfl, h2] at this; cases this))
    go_wp2_with fail
    refine (HCP.out _ HB3.out).mono ?_
    intro e w9 h
    obtain ⟨a', c', rfl, ho, hb⟩ := newS_elim h
    have HQ := Lib.hid ho
    have HB9 := Lib.hid (HB3.out.trans (hb.mono HB3.out.size))
    have hz9 := HB3.out.size
    clear h ho hb
    go_wp2
    go_ret
    rw [HE.out]
    exact ⟨a', c', rfl, HQ.out.more fun k hk => ⟨Nat.le_trans hz9 hk.1, hk.2⟩, HB9.out⟩
  | true =>
  have HQ3 := Lib.hid h2
  clear h2
  go_wp2_with fail
  refine (ur_w n _).mono ?_
  rintro e w4 ⟨rfl, hb⟩
  have HB4 := Lib.hid (HB3.out.trans (hb.mono HB3.out.size))
  have HP4 := Lib.hid (HP3.out.call hb)
  clear hb p0 p1
  have p0 := HP4.out.at_ 0 rfl
  have p1 := HP4.out.at_ 1 rfl
  cases h3 : isB n 1 100000 with
  | false =>
    have HE := Lib.hid (addV_no (L := L) (a := ((l0, l1), s)) (n := n) h4 h8 (fun h => by have := h.2.2.2.1; rw [h3] at this; cases this))
    go_wp2_with fail
    refine (HCP.out _ HB4.out).mono ?_
    intro e w9 h
    obtain ⟨a', c', rfl, ho, hb⟩ := newS_elim h
    have HQ := Lib.hid ho
    have HB9 := Lib.hid (HB4.out.trans (hb.mono HB4.out.size))
    have hz9 := HB4.out.size
    clear h ho hb
    go_wp2
    go_ret
    rw [HE.out]
    exact ⟨a', c', rfl, HQ.out.more fun k hk => ⟨Nat.le_trans hz9 hk.1, hk.2⟩, HB9.out⟩
  | true =>
  have HQ4 := Lib.hid h3
  have hnn := (isB_iff _ _ _).1 h3
  have hn1 : 1 ≤ n := hnn.1
  have hn2 : n ≤ 100000 := hnn.2
  clear h3 hnn
  have H4 := Lib.hid ((H.out.below R_Use_ok HB4.out).more R_Use_ok HB4.out.size)
  go_wp2_with fail
  refine (table_impl HR.out H4.out).mono ?_
  intro e w5 h
  obtain ⟨b, m, D, rfl, hmm, hM, hbl, hb⟩ := mapC_elim h
  have HM5 := Lib.hid hM
  have HB5 := Lib.hid (HB4.out.trans (hb.mono HB4.out.size))
  have HP5 := Lib.hid (HP4.out.call hb)
  have h48 := HR.out.1
  have hbW : W.heap.size ≤ b := Nat.le_trans HB4.out.size hbl
  have hbl5 := hM.lt
  clear h hM hbl hb p0 p1
  have p0 := HP5.out.at_ 0 rfl
  have p1 := HP5.out.at_ 1 rfl
  obtain ⟨w6, hw6⟩ : ∃ w, w = w5.alloc (.cells #[.int .i64 l0, .int .i64 l1, .string s] 65) := ⟨_, rfl⟩
  have hbA : Below w5.heap.size w5 w6 := by rw [hw6]; exact (Below.refl _ _).alloc (Nat.le_refl _) _
  have HP6 := Lib.hid (show Blk w6 w5.heap.size 65 #[.int .i64 l0, .int .i64 l1, .string s] from by rw [hw6]; exact Blk.new _ _ _)
  have HM6 := Lib.hid (HM5.out.call hbA)
  have HB6 := Lib.hid (HB5.out.trans (hbA.mono HB5.out.size))
  have HNB := Lib.hid (show w5.heap.size ≠ b from by omega)
  clear hbA
  go_wp2_with fail
  rw [← hw6]
  clear hw6 p0 p1
  refine (takes_impl b m (by omega) D (FU L) w6 HM6.out (all_FU HR.out) HW.out).mono ?_
  rintro e w7 ⟨rfl, hb⟩
  have HM7 := Lib.hid (HM6.out.call hb)
  have HB7 := Lib.hid (HB6.out.trans (hb.mono HB6.out.size))
  have HP7 := Lib.hid (HP6.out.call hb)
  clear hb
  cases h5 : takesB (FU L) (L.map ku) ((l0, l1), s) with
  | false =>
    have HE := Lib.hid (addV_no (L := L) (a := ((l0, l1), s)) (n := n) h4 h8 (fun h => by have := h.2.2.2.2; rw [h5] at this; cases this))
    go_wp2_with fail
    refine (HCP.out _ HB7.out).mono ?_
    intro e w9 h
    obtain ⟨a', c', rfl, ho, hb⟩ := newS_elim h
    have HQ := Lib.hid ho
    have HB9 := Lib.hid (HB7.out.trans (hb.mono HB7.out.size))
    have hz9 := HB7.out.size
    clear h ho hb
    go_wp2
    go_ret
    rw [HE.out]
    exact ⟨a', c', rfl, HQ.out.more fun k hk => ⟨Nat.le_trans hz9 hk.1, hk.2⟩, HB9.out⟩
  | true =>
  have HE := Lib.hid (addV_yes (L := L) (a := ((l0, l1), s)) (n := n) h4 h8 ⟨HQ1.out, HQ2.out, HQ3.out, HQ4.out, h5⟩)
  clear h5
  obtain ⟨v, hv⟩ : ∃ v, (FU L ((l0, l1), s)).getD 0 = v := ⟨_, rfl⟩
  have hvb : 0 ≤ v ∧ v ≤ 100000 := by
    rw [← hv]
    cases hf : FU L ((l0, l1), s) with
    | none => exact ⟨Int.le_refl _, by decide⟩
    | some u =>
      obtain ⟨u', e, h1, h2⟩ := FU_in HR.out (a := ((l0, l1), s)) (by rw [hf]; rfl)
      rw [hf] at e
      cases e
      exact ⟨by simpa using (by omega : (0 : Int) ≤ u), by simpa using h2⟩
  have hv0 : 0 ≤ v := hvb.1
  have hv1 : v ≤ 100000 := hvb.2
  have hM7d : MpU w7.drew b m D (FU L) := HM7.out.keep rfl
  have hlk : (Instr.lookup 62 (.map (some b)) (.agg #[.int .i64 l0, .int .i64 l1, .string s]) false).run Try.prog w7.drew = .ok (.int .i64 v) w7.drew := by
    have := hM7d.look HW.out
    rw [hv] at this
    exact this
  have hwfm : (Lit.int .i64 (addM v n)).wf = true := by
    unfold addM
    split
    · exact wf64 (by omega) (by omega)
    · exact wf64 (by omega) (by omega)
  obtain ⟨w9, hrun0, hm9, ht9⟩ := hM7d.put (by omega) HW.out hwfm
  have hmu : (Instr.mapUpdate 62 (.map (some b)) (.agg #[.int .i64 l0, .int .i64 l1, .string s]) (.int .i64 (min (IntKind.i64.wrap (v + n)) 100000))).run Try.prog w7.drew = .ok () w9 := by
    rw [show min (IntKind.i64.wrap (v + n)) 100000 = addM v n from by rw [Go.IntWalk.i64_in (v + n) (by omega)]; unfold addM; split <;> omega]
    exact hrun0
  have HM9 := Lib.hid (hm9.ext (G := addF L ((l0, l1), s) n) fun y _ => by unfold addF; rw [hv])
  have HT9 := Lib.hid (turned_grown ht9)
  have hz9 : w7.drew.heap.size ≤ w9.heap.size := HT9.out.size
  have HB9 := Lib.hid (HB7.out.drew.trans (grown_below2 HT9.out hbW HB7.out.size))
  clear hM7d hwfm hrun0 hm9 ht9 hvb hv
  go_wp2_with fail
  refine wp_region_held_drew (S := (fun V => w7.grownBy V (some b))) (by kernel_rfl) (grown_drew) (fun hHeld => ?_)
  refine tk 0 hHeld ?_
  refine tk 1 hHeld ?_ (hy := fun w hSw => by (try dsimp only at hSw); have k0 := box_at hSw HP7.out HNB.out 0 rfl; have k1 := box_at hSw HP7.out HNB.out 1 rfl; have k2 := box_at hSw HP7.out HNB.out 2 rfl; clear hSw; go_simp; try with_reducible rfl)
  refine tk 2 hHeld ?_
  refine tk 3 hHeld ?_ (hy := fun w hSw => by (try dsimp only at hSw); have k0 := box_at hSw HP7.out HNB.out 0 rfl; have k1 := box_at hSw HP7.out HNB.out 1 rfl; have k2 := box_at hSw HP7.out HNB.out 2 rfl; clear hSw; go_simp; try with_reducible rfl)
  refine tk 5 hHeld ?_
  refine rd1 4 (fun K hK => ?_)
  go_simp
  refine hK.out _ _ hHeld (fun hHeld => ?_)
  clear hK K
  refine tk 6 hHeld ?_
  refine rd1 7 (fun K hK => ?_)
  go_simp
  refine hK.out _ _ hHeld (fun hHeld => ?_)
  clear hK K
  refine rd1 8 (fun K hK => ?_)
  go_simp
  refine hK.out _ _ (grown_two hHeld HT9.out) (fun hHeld => ?_)
  clear hK K
  refine rd0 ?_
  clear hHeld hlk hmu
  have HT := Lib.hid (tuses_impl b (m + 1) (by omega) _ (addF L ((l0, l1), s) n) w9 HM9.out (fun y _ hy => by
    unfold addF at hy
    split at hy
    · rename_i e
      rw [e]
      exact h8
    · obtain ⟨x, hx, rfl⟩ := List.mem_map.1 (FU_some.1 hy)
      exact (usesR_keyed HR.out x hx).2.2.2.2))
  go_wp2_with fail
  refine HT.out.mono ?_
  intro e w10 h
  obtain ⟨ys, ⟨ha, hp, _⟩, hnew⟩ := usesC_elim h
  rw [add_uses HR.out HW.out hn1 hn2 ha hp] at hnew
  obtain ⟨a', c', rfl, ho, hb⟩ := newS_elim hnew
  have HQ := Lib.hid ho
  have HB10 := Lib.hid (HB9.out.trans (hb.mono HB9.out.size))
  have hzz := HB9.out.size
  clear h ha hp hnew ho hb
  go_wp2
  go_ret
  rw [HE.out]
  exact ⟨a', c', rfl, HQ.out.more fun k hk => ⟨Nat.le_trans hzz hk.1, hk.2⟩, HB10.out⟩
end Go.Proofs.Ytjhcphmehlihcaa.RepC
