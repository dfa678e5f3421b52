/- Of this claim's texts the part 3: NdA2 Draws SpDraw NdB. -/
import Derived.Test.YtfciojkibklkfaaProg
import Derived.WalkKit
import Derived.ProofKit
import Derived.Below
import Derived.LoopTactic
import Derived.RegionTactic
import Derived.BigRegion
import Derived.BigQuiet
import Derived.Deep.QuietTactic
import Derived.WalkSpells
import Derived.WalkLawsBesides
import Derived.Lib.Hide
import Derived.OwnWalk
import Derived.OpenShut
import Derived.Laws.Bits64
import Derived.Laws.MakeOwn
import Derived.Test.YtfciojkibklkfaaPN2
section
namespace Go.Proofs.Ytfciojkibklkfaa.RepC
open Go.RowKit RowC ValC SpanC KeptC
set_option linter.unusedVariables false
set_option linter.unusedSimpArgs false
set_option maxRecDepth 100000 in
set_option maxHeartbeats 3200000 in
theorem set_specA {L : List D_Node} {n st : Int} {a : Option Addr} {cap : Nat} {W : World} (h : RdSl R_Node W W.heap.size L a cap) :
    Calls Try.prog 17 #[.slice a L.length cap, .int .i64 n, .int .i64 st] W (ChgA (chgV L n (isB st 1 3) (setN st)) W) := by
  obtain ⟨w0, hw0⟩ : ∃ w, w = W.alloc (.cells #[.slice none 0 0, .int .i64 0] 29) := ⟨_, rfl⟩
  have hb0 : Below W.heap.size W w0 := by rw [hw0]; exact (Below.refl _ _).alloc (Nat.le_refl _) _
  have X0 := Lib.hid (show Blk w0 W.heap.size 29 #[.slice none 0 0, .int .i64 0] from by rw [hw0]; exact Blk.new _ _ _)
  have H0 := Lib.hid (mv_rd R_Node_ok h hb0)
  have HB0 := Lib.hid hb0
  have hnn := nd_len h
  have hz0 := hb0.size
  have hs := nodes_spec H0.out
  obtain ⟨z, hz⟩ : ∃ z, nodesB L = z := ⟨_, rfl⟩
  rw [hz] at hs
  have HZ := Lib.hid hz
  clear h hz hb0
  by_cases h400 : 400 < L.length
  · have HE := Lib.hid (chgV_size (n := n) (ok := isB st 1 3) (chg := setN st) h400)
    have hd : decide ((400 : Int) < (L.length : Int)) = true := decide_eq_true (by omega)
    go_enter Try.func17, Try.ntmps17
    go_wp2_with fail
    rw [← hw0]
    clear hw0
    refine (ill_spec 2 _).mono ?_
    rintro e w9 ⟨rfl, hb9⟩
    have X9 := Lib.hid (X0.out.call hb9)
    have HB9 := Lib.hid (HB0.out.trans (hb9.mono HB0.out.size))
    have q0 := X9.out.at_ 0 rfl
    have q1 := X9.out.at_ 1 rfl
    have f0 := X9.out.soft 0
    have f1 := X9.out.soft 1
    clear hb9
    go_wp2
    first | rw [HE.out] | rw [HZS.out, HE.out]
    refine bodyPost_ret (v := .agg #[.slice none 0 0, .int .i64 2]) (by simp [results, Try.results17, go_sem, *]) rfl (outA_ill ?_)
    exact (HB9.out.setCell (p := ⟨W.heap.size, 0, none⟩) (show W.heap.size ≤ W.heap.size by omega) _).setCell (p := ⟨W.heap.size, 1, none⟩) (show W.heap.size ≤ W.heap.size by omega) _
  have hd : decide ((400 : Int) < (L.length : Int)) = false := decide_eq_false (by omega)
  go_enter Try.func17, Try.ntmps17
  go_wp2_with fail
  rw [← hw0]
  clear hw0
  refine hs.mono ?_
  intro e w1 h
  obtain ⟨rfl, hb⟩ := isB_elim h
  have XR := Lib.hid (X0.out.call hb)
  have H1 := Lib.hid (mv_rd R_Node_ok H0.out hb)
  have HB1 := Lib.hid (HB0.out.trans (hb.mono hz0))
  clear h hb hs
  cases z with
  | false =>
    have HE := Lib.hid (chgV_form (n := n) (ok := isB st 1 3) (chg := setN st) h400 (by rw [HZ.out]; rfl))
    go_wp2_with fail
    refine (ill_spec 1 _).mono ?_
    rintro e w9 ⟨rfl, hb9⟩
    have X9 := Lib.hid (XR.out.call hb9)
    have HB9 := Lib.hid (HB1.out.trans (hb9.mono HB1.out.size))
    have q0 := X9.out.at_ 0 rfl
    have q1 := X9.out.at_ 1 rfl
    have f0 := X9.out.soft 0
    have f1 := X9.out.soft 1
    clear hb9
    go_wp2
    first | rw [HE.out] | rw [HZS.out, HE.out]
    refine bodyPost_ret (v := .agg #[.slice none 0 0, .int .i64 1]) (by simp [results, Try.results17, go_sem, *]) rfl (outA_ill ?_)
    exact (HB9.out.setCell (p := ⟨W.heap.size, 0, none⟩) (show W.heap.size ≤ W.heap.size by omega) _).setCell (p := ⟨W.heap.size, 1, none⟩) (show W.heap.size ≤ W.heap.size by omega) _
  | true =>
  obtain ⟨zs, hzs⟩ : ∃ zs, isB st 1 3 = zs := ⟨_, rfl⟩
  have hst := fun W => state_spec st W
  rw [hzs] at hst
  have HZS := Lib.hid hzs
  rw [hzs]
  clear hzs
  cases zs with
  | false =>
    have HE := Lib.hid (chgV_form (n := n) (ok := false) (chg := setN st) h400 (by rw [HZ.out]; rfl))
    go_wp2_with (first | (go_at_call 66; refine (hst _).mono ?_; rintro e w' ⟨rfl, rfl⟩) | fail)
    refine (ill_spec 1 _).mono ?_
    rintro e w9 ⟨rfl, hb9⟩
    have X9 := Lib.hid (XR.out.call hb9)
    have HB9 := Lib.hid (HB1.out.trans (hb9.mono HB1.out.size))
    have q0 := X9.out.at_ 0 rfl
    have q1 := X9.out.at_ 1 rfl
    have f0 := X9.out.soft 0
    have f1 := X9.out.soft 1
    clear hb9
    go_wp2
    first | rw [HE.out] | rw [HZS.out, HE.out]
    refine bodyPost_ret (v := .agg #[.slice none 0 0, .int .i64 1]) (by simp [results, Try.results17, go_sem, *]) rfl (outA_ill ?_)
    exact (HB9.out.setCell (p := ⟨W.heap.size, 0, none⟩) (show W.heap.size ≤ W.heap.size by omega) _).setCell (p := ⟨W.heap.size, 1, none⟩) (show W.heap.size ≤ W.heap.size by omega) _
  | true =>
  have HZO := Lib.hid (show (nodesB L && true) = true from by rw [HZ.out]; rfl)
  have hN := nodesB_iff.1 HZ.out
  have hsm := nodesR_small hN
  have hL1 := hN.1.1
  have hL6 := hN.1.2
  have HN := Lib.hid hN
  clear hN
  obtain ⟨y, hy⟩ : ∃ y, isB n 0 ((L.length : Int) - 1) = y := ⟨_, rfl⟩
  have hi := fun W => place_spec (L := L) a cap n W hsm.1
  rw [hy] at hi
  have HY := Lib.hid hy
  clear hy
  cases y with
  | false =>
    have HE := Lib.hid (chgV_none (chg := setN st) h400 HZO.out HY.out)
    go_wp2_with (first | (go_at_call 66; refine (hst _).mono ?_; rintro e w' ⟨rfl, rfl⟩) | (go_at_call 58; refine (hi _).mono ?_; rintro e w' ⟨rfl, rfl⟩) | fail)
    refine (ill_spec 6 _).mono ?_
    rintro e w9 ⟨rfl, hb9⟩
    have X9 := Lib.hid (XR.out.call hb9)
    have HB9 := Lib.hid (HB1.out.trans (hb9.mono HB1.out.size))
    have q0 := X9.out.at_ 0 rfl
    have q1 := X9.out.at_ 1 rfl
    have f0 := X9.out.soft 0
    have f1 := X9.out.soft 1
    clear hb9
    go_wp2
    first | rw [HE.out] | rw [HZS.out, HE.out]
    refine bodyPost_ret (v := .agg #[.slice none 0 0, .int .i64 6]) (by simp [results, Try.results17, go_sem, *]) rfl (outA_ill ?_)
    exact (HB9.out.setCell (p := ⟨W.heap.size, 0, none⟩) (show W.heap.size ≤ W.heap.size by omega) _).setCell (p := ⟨W.heap.size, 1, none⟩) (show W.heap.size ≤ W.heap.size by omega) _
  | true =>
    have hnb := (isB_iff _ _ _).1 HY.out
    obtain ⟨m, rfl⟩ : ∃ m : Nat, n = m := ⟨n.toNat, by omega⟩
    have hm : m < L.length := by omega
    obtain ⟨x, hx⟩ := el_some hm
    obtain ⟨gl, o, us, rfl, hg, hu, hr⟩ := H1.out.at_ hx
    obtain ⟨s, M⟩ := x
    obtain ⟨ba, bc, rfl, hM⟩ := rd_Node hr
    have e0 : w1.cell? ⟨gl, o + m * 2, none⟩ = some (.int .i64 s) := by simpa [size_NodeS] using hu 0 _ rfl
    have hv := chgV_at (chg := setN st) h400 HZO.out hx
    have HX := Lib.hid hx
    have hi0 : (0 : Int) ≤ (m : Int) := Int.natCast_nonneg _
    have hi1 : (m : Int) < (L.length : Int) := by omega
    clear hx hnb hu hr hM
    by_cases hs : s = st
    · rw [setN_same hs, if_neg (show ¬ (10 : Int) = 0 by decide)] at hv
      have HE := Lib.hid hv
      have hq : (s == st) = true := beq_iff_eq.2 hs
      clear hs hv
      go_wp2_with (first | (go_at_call 66; refine (hst _).mono ?_; rintro e w' ⟨rfl, rfl⟩) | (go_at_call 58; refine (hi _).mono ?_; rintro e w' ⟨rfl, rfl⟩) | fail)
      refine (ill_spec 10 _).mono ?_
      rintro e w9 ⟨rfl, hb9⟩
      have X9 := Lib.hid (XR.out.call hb9)
      have HB9 := Lib.hid (HB1.out.trans (hb9.mono HB1.out.size))
      have q0 := X9.out.at_ 0 rfl
      have q1 := X9.out.at_ 1 rfl
      have f0 := X9.out.soft 0
      have f1 := X9.out.soft 1
      clear hb9
      go_wp2
      first | rw [HE.out] | rw [HZS.out, HE.out]
      refine bodyPost_ret (v := .agg #[.slice none 0 0, .int .i64 10]) (by simp [results, Try.results17, go_sem, *]) rfl (outA_ill ?_)
      exact (HB9.out.setCell (p := ⟨W.heap.size, 0, none⟩) (show W.heap.size ≤ W.heap.size by omega) _).setCell (p := ⟨W.heap.size, 1, none⟩) (show W.heap.size ≤ W.heap.size by omega) _
    · rw [setN_new hs, if_pos rfl] at hv
      have HV := Lib.hid hv
      have hq : (s == st) = false := beq_eq_false_iff_ne.2 hs
      obtain ⟨RR, hRR⟩ : ∃ R, L.set m (st, M) = R := ⟨_, rfl⟩
      have HRL := Lib.hid (show RR.length = L.length from by rw [← hRR, List.length_set])
      rw [show (L.set m (((0 : Int), ((st, M) : D_Node)).2)) = RR from hRR] at HV
      clear hs hv
      go_wp2_with (first | (go_at_call 66; refine (hst _).mono ?_; rintro e w' ⟨rfl, rfl⟩) | (go_at_call 58; refine (hi _).mono ?_; rintro e w' ⟨rfl, rfl⟩) | fail)
      refine (copy_nodesA hsm.1 hsm.2 H1.out).mono ?_
      intro e w2 h
      obtain ⟨v, rfl, hA, hb⟩ := newA_elim h
      obtain ⟨g, c', ba2, bc2, rfl, hlo, hgl, d0, d1, hso, hrd, hst9, hbk⟩ := hA.open_ HX.out
      have s0 := hso (m * 2)
      have hrow := hst9 st
      rw [hRR] at hrow
      have hlt1 := XR.out.lt
      have hz2 := hb.size
      have hx6 : Blk (w2.setCell ⟨g, m * 2, none⟩ (.int .i64 st)) W.heap.size 29 #[.slice none 0 0, .int .i64 0] := (XR.out.call hb).far (by omega) _
      have hb6 : Below W.heap.size W (w2.setCell ⟨g, m * 2, none⟩ (.int .i64 st)) := (HB1.out.trans (hb.mono HB1.out.size)).setCell (p := ⟨g, m * 2, none⟩) (show W.heap.size ≤ g by omega) _
      have HVZ := Lib.hid (show chgV L m (isB st 1 3) (setN st) = (RR, 0) from by rw [HZS.out, HV.out])
      clear h hb d1 hi hst hst9 hbk hrd hso hRR hA
      have X6 := Lib.hid hx6
      have HB6 := Lib.hid hb6
      have HROW := Lib.hid hrow
      have q0 := X6.out.at_ 0 rfl
      have q1 := X6.out.at_ 1 rfl
      have f0 := X6.out.soft 0
      have f1 := X6.out.soft 1
      clear hx6 hb6 hrow
      go_wp2
      rw [HVZ.out]
      refine bodyPost_ret (v := .agg #[.slice (some ⟨g, 0, none⟩) L.length c', .int .i64 0]) (by simp [results, Try.results17, go_sem, *]) rfl ⟨_, rfl, ((HROW.out.far (b := W.heap.size) (by omega) 0 _).far (b := W.heap.size) (by omega) 1 _).lower (by omega), (HB6.out.setCell (p := ⟨W.heap.size, 0, none⟩) (show W.heap.size ≤ W.heap.size by omega) _).setCell (p := ⟨W.heap.size, 1, none⟩) (show W.heap.size ≤ W.heap.size by omega) _⟩
set_option maxRecDepth 100000 in
set_option maxHeartbeats 6400000 in
theorem put_specA {L : List D_Node} {n a b now : Int} {al : Option Addr} {cap : Nat} {W : World} (h : RdSl R_Node W W.heap.size L al cap) :
    Calls Try.prog 14 #[.slice al L.length cap, .int .i64 n, .agg #[.int .i64 a, .int .i64 b], .int .i64 now] W (ChgA (chgV L n (spB a b && isB now 0 999900) (putN (a, b) now)) W) := by
  obtain ⟨wx, hwx⟩ : ∃ w, w = W.alloc (.cells #[.int .i64 a, .int .i64 b] 25) := ⟨_, rfl⟩
  have hbx : Below W.heap.size W wx := by rw [hwx]; exact (Below.refl _ _).alloc (Nat.le_refl _) _
  have hsx : wx.heap.size = W.heap.size + 1 := by rw [hwx]; simp
  have bx : Blk wx W.heap.size 25 #[.int .i64 a, .int .i64 b] := by rw [hwx]; exact Blk.new _ _ _
  obtain ⟨w0, hw0⟩ : ∃ w, w = wx.alloc (.cells #[.slice none 0 0, .int .i64 0] 29) := ⟨_, rfl⟩
  have hb0 : Below wx.heap.size wx w0 := by rw [hw0]; exact (Below.refl _ _).alloc (Nat.le_refl _) _
  have X0 := Lib.hid (show Blk w0 (W.heap.size + 1) 29 #[.slice none 0 0, .int .i64 0] from by rw [← hsx, hw0]; exact Blk.new _ _ _)
  have XX0 := Lib.hid (bx.call hb0)
  have HB0 := Lib.hid (hbx.trans (hb0.mono hbx.size))
  have H0 := Lib.hid (mv_rd R_Node_ok h HB0.out)
  have hnn := nd_len h
  have hz0 := HB0.out.size
  have hs := nodes_spec H0.out
  obtain ⟨z, hz⟩ : ∃ z, nodesB L = z := ⟨_, rfl⟩
  rw [hz] at hs
  have HZ := Lib.hid hz
  rw [hwx] at hw0
  clear h hz hb0 hbx bx hsx hwx
  obtain ⟨okv, hok⟩ : ∃ o, (spB a b && isB now 0 999900) = o := ⟨_, rfl⟩
  have HOKV := Lib.hid hok
  rw [hok]
  clear hok
  by_cases h400 : 400 < L.length
  · have HE := Lib.hid (chgV_size (n := n) (ok := okv) (chg := putN (a, b) now) h400)
    have hd : decide ((400 : Int) < (L.length : Int)) = true := decide_eq_true (by omega)
    go_enter Try.func14, Try.ntmps14
    go_wp2_with fail
    rw [← hw0]
    clear hw0
    refine (ill_spec 2 _).mono ?_
    rintro e w9 ⟨rfl, hb9⟩
    have X9 := Lib.hid (X0.out.call hb9)
    have HB9 := Lib.hid (HB0.out.trans (hb9.mono HB0.out.size))
    have q0 := X9.out.at_ 0 rfl
    have q1 := X9.out.at_ 1 rfl
    have f0 := X9.out.soft 0
    have f1 := X9.out.soft 1
    clear hb9
    go_wp2
    rw [HE.out]
    refine bodyPost_ret (v := .agg #[.slice none 0 0, .int .i64 2]) (by simp [results, Try.results14, go_sem, *]) rfl (outA_ill ?_)
    exact (HB9.out.setCell (p := ⟨W.heap.size + 1, 0, none⟩) (show W.heap.size ≤ W.heap.size + 1 by omega) _).setCell (p := ⟨W.heap.size + 1, 1, none⟩) (show W.heap.size ≤ W.heap.size + 1 by omega) _
  have hd : decide ((400 : Int) < (L.length : Int)) = false := decide_eq_false (by omega)
  go_enter Try.func14, Try.ntmps14
  go_wp2_with fail
  rw [← hw0]
  clear hw0
  refine hs.mono ?_
  intro e w1 h
  obtain ⟨rfl, hb⟩ := isB_elim h
  have XR := Lib.hid (X0.out.call hb)
  have XX := Lib.hid (XX0.out.call hb)
  have H1 := Lib.hid (mv_rd R_Node_ok H0.out hb)
  have HB1 := Lib.hid (HB0.out.trans (hb.mono hz0))
  have hxr := XR.out.lt
  clear h hb hs
  cases z with
  | false =>
    have HE := Lib.hid (chgV_form (n := n) (ok := okv) (chg := putN (a, b) now) h400 (by rw [HZ.out]; rfl))
    go_wp2_with fail
    refine (ill_spec 1 _).mono ?_
    rintro e w9 ⟨rfl, hb9⟩
    have X9 := Lib.hid (XR.out.call hb9)
    have HB9 := Lib.hid (HB1.out.trans (hb9.mono HB1.out.size))
    have q0 := X9.out.at_ 0 rfl
    have q1 := X9.out.at_ 1 rfl
    have f0 := X9.out.soft 0
    have f1 := X9.out.soft 1
    clear hb9
    go_wp2
    rw [HE.out]
    refine bodyPost_ret (v := .agg #[.slice none 0 0, .int .i64 1]) (by simp [results, Try.results14, go_sem, *]) rfl (outA_ill ?_)
    exact (HB9.out.setCell (p := ⟨W.heap.size + 1, 0, none⟩) (show W.heap.size ≤ W.heap.size + 1 by omega) _).setCell (p := ⟨W.heap.size + 1, 1, none⟩) (show W.heap.size ≤ W.heap.size + 1 by omega) _
  | true =>
  have q0 := XX.out.at_ 0 rfl
  have q1 := XX.out.at_ 1 rfl
  have hrs := fun W => right_spec a b W
  obtain ⟨zs, hzs⟩ : ∃ zs, spB a b = zs := ⟨_, rfl⟩
  have HSPB := Lib.hid hzs
  rw [hzs] at hrs
  rw [hzs] at HOKV
  clear hzs
  cases zs with
  | false =>
    obtain rfl : okv = false := by have := HOKV.out; simpa using this.symm
    have HE := Lib.hid (chgV_no (n := n) (chg := putN (a, b) now) h400)
    go_wp2_with fail
    refine (hrs _).mono ?_
    rintro e wr ⟨rfl, hbr⟩
    have XR := Lib.hid (XR.out.call hbr)
    have HB1 := Lib.hid (HB1.out.trans (hbr.mono HB1.out.size))
    clear q0 q1 hbr hrs
    go_wp2_with fail
    refine (ill_spec 1 _).mono ?_
    rintro e w9 ⟨rfl, hb9⟩
    have X9 := Lib.hid (XR.out.call hb9)
    have HB9 := Lib.hid (HB1.out.trans (hb9.mono HB1.out.size))
    have q0 := X9.out.at_ 0 rfl
    have q1 := X9.out.at_ 1 rfl
    have f0 := X9.out.soft 0
    have f1 := X9.out.soft 1
    clear hb9
    go_wp2
    rw [HE.out]
    refine bodyPost_ret (v := .agg #[.slice none 0 0, .int .i64 1]) (by simp [results, Try.results14, go_sem, *]) rfl (outA_ill ?_)
    exact (HB9.out.setCell (p := ⟨W.heap.size + 1, 0, none⟩) (show W.heap.size ≤ W.heap.size + 1 by omega) _).setCell (p := ⟨W.heap.size + 1, 1, none⟩) (show W.heap.size ≤ W.heap.size + 1 by omega) _
  | true =>
  go_wp2_with fail
  refine (hrs _).mono ?_
  rintro e wr ⟨rfl, hbr⟩
  have XR := Lib.hid (XR.out.call hbr)
  have XX := Lib.hid (XX.out.call hbr)
  have H1 := Lib.hid (mv_rd R_Node_ok H1.out hbr)
  have HB1 := Lib.hid (HB1.out.trans (hbr.mono HB1.out.size))
  have hxr := XR.out.lt
  clear q0 q1 hbr hrs
  have hnw := fun W => now_spec now W
  obtain ⟨zn, hzn⟩ : ∃ zn, isB now 0 999900 = zn := ⟨_, rfl⟩
  have HNB := Lib.hid hzn
  rw [hzn] at hnw
  rw [hzn] at HOKV
  clear hzn
  cases zn with
  | false =>
    obtain rfl : okv = false := by have := HOKV.out; simpa using this.symm
    have HE := Lib.hid (chgV_no (n := n) (chg := putN (a, b) now) h400)
    go_wp2_with (first | (go_at_call 57; refine (hnw _).mono ?_; rintro e w' ⟨rfl, rfl⟩) | fail)
    refine (ill_spec 1 _).mono ?_
    rintro e w9 ⟨rfl, hb9⟩
    have X9 := Lib.hid (XR.out.call hb9)
    have HB9 := Lib.hid (HB1.out.trans (hb9.mono HB1.out.size))
    have q0 := X9.out.at_ 0 rfl
    have q1 := X9.out.at_ 1 rfl
    have f0 := X9.out.soft 0
    have f1 := X9.out.soft 1
    clear hb9
    go_wp2
    rw [HE.out]
    refine bodyPost_ret (v := .agg #[.slice none 0 0, .int .i64 1]) (by simp [results, Try.results14, go_sem, *]) rfl (outA_ill ?_)
    exact (HB9.out.setCell (p := ⟨W.heap.size + 1, 0, none⟩) (show W.heap.size ≤ W.heap.size + 1 by omega) _).setCell (p := ⟨W.heap.size + 1, 1, none⟩) (show W.heap.size ≤ W.heap.size + 1 by omega) _
  | true =>
  obtain rfl : okv = true := by have := HOKV.out; simpa using this.symm
  have HZO := Lib.hid (show (nodesB L && true) = true from by rw [HZ.out]; rfl)
  have hN := nodesB_iff.1 HZ.out
  have hsm := nodesR_small hN
  have hL1 := hN.1.1
  have hL6 := hN.1.2
  have HN := Lib.hid hN
  clear hN
  obtain ⟨y, hy⟩ : ∃ y, isB n 0 ((L.length : Int) - 1) = y := ⟨_, rfl⟩
  have hi := fun W => place_spec (L := L) al cap n W hsm.1
  rw [hy] at hi
  have HY := Lib.hid hy
  clear hy
  cases y with
  | false =>
    have HE := Lib.hid (chgV_none (chg := putN (a, b) now) h400 HZO.out HY.out)
    go_wp2_with (first | (go_at_call 57; refine (hnw _).mono ?_; rintro e w' ⟨rfl, rfl⟩) | (go_at_call 58; refine (hi _).mono ?_; rintro e w' ⟨rfl, rfl⟩) | fail)
    refine (ill_spec 6 _).mono ?_
    rintro e w9 ⟨rfl, hb9⟩
    have X9 := Lib.hid (XR.out.call hb9)
    have HB9 := Lib.hid (HB1.out.trans (hb9.mono HB1.out.size))
    have q0 := X9.out.at_ 0 rfl
    have q1 := X9.out.at_ 1 rfl
    have f0 := X9.out.soft 0
    have f1 := X9.out.soft 1
    clear hb9
    go_wp2
    rw [HE.out]
    refine bodyPost_ret (v := .agg #[.slice none 0 0, .int .i64 6]) (by simp [results, Try.results14, go_sem, *]) rfl (outA_ill ?_)
    exact (HB9.out.setCell (p := ⟨W.heap.size + 1, 0, none⟩) (show W.heap.size ≤ W.heap.size + 1 by omega) _).setCell (p := ⟨W.heap.size + 1, 1, none⟩) (show W.heap.size ≤ W.heap.size + 1 by omega) _
  | true =>
    have hnb := (isB_iff _ _ _).1 HY.out
    obtain ⟨m, rfl⟩ : ∃ m : Nat, n = m := ⟨n.toNat, by omega⟩
    have hm : m < L.length := by omega
    obtain ⟨x, hx⟩ := el_some hm
    have hok := nodesR_at HN.out hx
    obtain ⟨gl, o, us, rfl, hg, hu, hr⟩ := H1.out.at_ hx
    obtain ⟨s, M⟩ := x
    obtain ⟨ba, bc, rfl, hM⟩ := rd_Node hr
    have e1 : wr.cell? ⟨gl, o + m * 2 + 1, none⟩ = some (.slice ba M.length bc) := by simpa [size_NodeS, Nat.add_assoc] using hu 1 _ rfl
    have HCV := Lib.hid (chgV_at (chg := putN (a, b) now) h400 HZO.out hx)
    have hml : M.length ≤ 4 := hok.2.1
    have HSP := Lib.hid hok.2.2
    have HAB := Lib.hid ((spB_iff a b).1 HSPB.out)
    have HX := Lib.hid hx
    have HM := Lib.hid hM
    have HE1 := Lib.hid e1
    have HG := Lib.hid hg
    have hi0 : (0 : Int) ≤ (m : Int) := Int.natCast_nonneg _
    have hi1 : (m : Int) < (L.length : Int) := by omega
    have hwn : IntKind.i64.wrap (now + 40) = now + 40 := by
      have := (isB_iff _ _ _).1 HNB.out
      exact IntWalk.i64_in _ (by omega)
    have q0 := XX.out.at_ 0 rfl
    have q1 := XX.out.at_ 1 rfl
    have HQ0 := Lib.hid q0
    have HQ1 := Lib.hid q1
    have hxx : W.heap.size < wr.heap.size := XX.out.lt
    clear hx hnb hu hr hM hok e1 hg
    by_cases h1 : a ≤ now
    · have HE := Lib.hid (show chgV L m true (putN (a, b) now) = ([], 8) from by rw [HCV.out, pN_range (by simp [h1]), if_neg (show ¬ (8 : Int) = 0 by decide)])
      have hd1 : decide (a ≤ now) = true := decide_eq_true h1
      clear h1
      go_wp2_with (first | (go_at_call 57; refine (hnw _).mono ?_; rintro e w' ⟨rfl, rfl⟩) | (go_at_call 58; refine (hi _).mono ?_; rintro e w' ⟨rfl, rfl⟩) | fail)
      refine (ill_spec 8 _).mono ?_
      rintro e w9 ⟨rfl, hb9⟩
      have X9 := Lib.hid (XR.out.call hb9)
      have HB9 := Lib.hid (HB1.out.trans (hb9.mono HB1.out.size))
      have q0 := X9.out.at_ 0 rfl
      have q1 := X9.out.at_ 1 rfl
      have f0 := X9.out.soft 0
      have f1 := X9.out.soft 1
      clear hb9
      go_wp2
      rw [HE.out]
      refine bodyPost_ret (v := .agg #[.slice none 0 0, .int .i64 8]) (by simp [results, Try.results14, go_sem, *]) rfl (outA_ill ?_)
      exact (HB9.out.setCell (p := ⟨W.heap.size + 1, 0, none⟩) (show W.heap.size ≤ W.heap.size + 1 by omega) _).setCell (p := ⟨W.heap.size + 1, 1, none⟩) (show W.heap.size ≤ W.heap.size + 1 by omega) _
    have hd1 : decide (a ≤ now) = false := decide_eq_false h1
    by_cases h2 : now + 40 < b
    · have HE := Lib.hid (show chgV L m true (putN (a, b) now) = ([], 8) from by rw [HCV.out, pN_range (by simp [h2]), if_neg (show ¬ (8 : Int) = 0 by decide)])
      have hd2 : decide (now + 40 < b) = true := decide_eq_true h2
      clear h1 h2
      go_wp2_with (first | (go_at_call 57; refine (hnw _).mono ?_; rintro e w' ⟨rfl, rfl⟩) | (go_at_call 58; refine (hi _).mono ?_; rintro e w' ⟨rfl, rfl⟩) | fail)
      refine (ill_spec 8 _).mono ?_
      rintro e w9 ⟨rfl, hb9⟩
      have X9 := Lib.hid (XR.out.call hb9)
      have HB9 := Lib.hid (HB1.out.trans (hb9.mono HB1.out.size))
      have q0 := X9.out.at_ 0 rfl
      have q1 := X9.out.at_ 1 rfl
      have f0 := X9.out.soft 0
      have f1 := X9.out.soft 1
      clear hb9
      go_wp2
      rw [HE.out]
      refine bodyPost_ret (v := .agg #[.slice none 0 0, .int .i64 8]) (by simp [results, Try.results14, go_sem, *]) rfl (outA_ill ?_)
      exact (HB9.out.setCell (p := ⟨W.heap.size + 1, 0, none⟩) (show W.heap.size ≤ W.heap.size + 1 by omega) _).setCell (p := ⟨W.heap.size + 1, 1, none⟩) (show W.heap.size ≤ W.heap.size + 1 by omega) _
    have hd2 : decide (now + 40 < b) = false := decide_eq_false h2
    have HRG := Lib.hid (show (decide ((a, b).1 ≤ now) || decide (now + 40 < (a, b).2)) = false from by show (decide (a ≤ now) || decide (now + 40 < b)) = false; rw [hd1, hd2]; rfl)
    clear h1 h2
    go_wp2_with (first | (go_at_call 57; refine (hnw _).mono ?_; rintro e w' ⟨rfl, rfl⟩) | (go_at_call 58; refine (hi _).mono ?_; rintro e w' ⟨rfl, rfl⟩) | fail)
    clear q0 q1
    refine wp_region_held_drew (S := (fun V => Below (wr).heap.size (wr) V)) (by kernel_rfl) ((Below.refl _ _).drew) (fun hHeld => ?_)
    refine tk 0 hHeld ?_
    refine tk 1 hHeld ?_
    refine tk 2 hHeld ?_
    refine tk 3 hHeld ?_
    refine tk 4 hHeld ?_ (hy := fun w hSw => by (try dsimp only at hSw); have k0 := (hSw.cell (p := ⟨gl, o + m * 2 + 1, none⟩) HG.out).trans HE1.out; clear hSw; go_simp; try with_reducible rfl)
    refine tk 5 hHeld ?_ (hy := fun w hSw => by (try dsimp only at hSw); have k0 := (hSw.cell (p := ⟨W.heap.size, 0, none⟩) hxx).trans HQ0.out; have k1 := (hSw.cell (p := ⟨W.heap.size, 1, none⟩) hxx).trans HQ1.out; clear hSw; go_simp; try with_reducible rfl)
    refine rd1 6 (fun K hK => ?_)
    go_simp
    go_at_call 59
    refine (free_spec ba M.length bc (gt M) a b _ (by omega) (pa_of (mv_rd R_Span_ok HM.out hHeld) (Nat.le_refl _))).mono ?_
    intro e w3 h
    obtain ⟨z3, rfl, hz3, hb⟩ := resB_elim h
    have HZ3 := Lib.hid hz3
    clear h hz3
    refine hK.out _ _ (hHeld.trans (hb.mono hHeld.size)) (fun hHeld => ?_)
    clear hK K hb
    refine tk 7 hHeld ?_
    refine tk 8 hHeld ?_
    refine rd0 ?_
    have HF := Lib.hid hHeld
    clear hHeld
    have HB3 := HF
    have hz3w := HB3.out.size
    have XR := Lib.hid (XR.out.call HB3.out)
    have XX := Lib.hid (XX.out.call HB3.out)
    have HB1 := Lib.hid (HB1.out.trans (HB3.out.mono HB1.out.size))
    have H1 := Lib.hid (mv_rd R_Node_ok H1.out HB3.out)
    cases z3 with
    | false =>
      have HE := Lib.hid (show chgV L m true (putN (a, b) now) = ([], 7) from by rw [HCV.out, pN_there (d := (s, M)) HRG.out (fun h => by have := HZ3.out.2 h; cases this), if_neg (show ¬ (7 : Int) = 0 by decide)])
      go_wp2_with fail
      refine (ill_spec 7 _).mono ?_
      rintro e w9 ⟨rfl, hb9⟩
      have X9 := Lib.hid (XR.out.call hb9)
      have HB9 := Lib.hid (HB1.out.trans (hb9.mono HB1.out.size))
      have q0 := X9.out.at_ 0 rfl
      have q1 := X9.out.at_ 1 rfl
      have f0 := X9.out.soft 0
      have f1 := X9.out.soft 1
      clear hb9
      go_wp2
      rw [HE.out]
      refine bodyPost_ret (v := .agg #[.slice none 0 0, .int .i64 7]) (by simp [results, Try.results14, go_sem, *]) rfl (outA_ill ?_)
      exact (HB9.out.setCell (p := ⟨W.heap.size + 1, 0, none⟩) (show W.heap.size ≤ W.heap.size + 1 by omega) _).setCell (p := ⟨W.heap.size + 1, 1, none⟩) (show W.heap.size ≤ W.heap.size + 1 by omega) _
    | true =>
    have HFP := Lib.hid (HZ3.out.1 rfl)
    have e3 : w3.cell? ⟨gl, o + m * 2 + 1, none⟩ = some (.slice ba M.length bc) := (HB3.out.cell (p := ⟨gl, o + m * 2 + 1, none⟩) HG.out).trans HE1.out
    by_cases h4 : 4 ≤ M.length
    · have HE := Lib.hid (show chgV L m true (putN (a, b) now) = ([], 9) from by rw [HCV.out, pN_full (d := (s, M)) HRG.out HFP.out (show M.length = 4 by omega), if_neg (show ¬ (9 : Int) = 0 by decide)])
      have hd4 : decide ((4 : Int) ≤ (M.length : Int)) = true := decide_eq_true (by omega)
      clear h4
      go_wp2_with fail
      refine (ill_spec 9 _).mono ?_
      rintro e w9 ⟨rfl, hb9⟩
      have X9 := Lib.hid (XR.out.call hb9)
      have HB9 := Lib.hid (HB1.out.trans (hb9.mono HB1.out.size))
      have q0 := X9.out.at_ 0 rfl
      have q1 := X9.out.at_ 1 rfl
      have f0 := X9.out.soft 0
      have f1 := X9.out.soft 1
      clear hb9
      go_wp2
      rw [HE.out]
      refine bodyPost_ret (v := .agg #[.slice none 0 0, .int .i64 9]) (by simp [results, Try.results14, go_sem, *]) rfl (outA_ill ?_)
      exact (HB9.out.setCell (p := ⟨W.heap.size + 1, 0, none⟩) (show W.heap.size ≤ W.heap.size + 1 by omega) _).setCell (p := ⟨W.heap.size + 1, 1, none⟩) (show W.heap.size ≤ W.heap.size + 1 by omega) _
    have hd4 : decide ((4 : Int) ≤ (M.length : Int)) = false := decide_eq_false (by omega)
    have HVV := Lib.hid (show chgV L m true (putN (a, b) now) = (L.set m (s, putL M (a, b)), 0) from by rw [HCV.out, pN_yes (d := (s, M)) HRG.out HFP.out (show ¬ M.length = 4 by omega), if_pos rfl])
    clear h4
    go_wp2_with fail
    refine (copy_nodesA hsm.1 hsm.2 H1.out).mono ?_
    intro e w4 h
    obtain ⟨v, rfl, hA, hb⟩ := newA_elim h
    obtain ⟨g, c', ba2, bc2, rfl, hlo, hgl, d00, d11, hso, hrd, hst9, hbk⟩ := hA.open_ HX.out
    have c4 : w4.drew.cell? ⟨g, m * 2 + 1, none⟩ = some (.slice ba2 M.length bc2) := d11
    have hput := put_any (a := a) (b := b) (w := w4.drew) (by omega) hrd ⟨HSP.out, HAB.out, HFP.out⟩
    have HPUT := Lib.hid hput
    have HBK := Lib.hid hbk
    have HSO := Lib.hid hso
    have HB4 := Lib.hid hb
    have hz4 := hb.size
    have XR4 := Lib.hid (XR.out.call hb)
    have XX4 := Lib.hid (XX.out.call hb)
    have hS4 : w4.drew.cell? ⟨W.heap.size, 0, none⟩ = some (.int .i64 a) ∧ w4.drew.cell? ⟨W.heap.size, 1, none⟩ = some (.int .i64 b) := ⟨XX4.out.at_ 0 rfl, XX4.out.at_ 1 rfl⟩
    have HS4 := Lib.hid hS4
    obtain ⟨RR, hRR⟩ : ∃ R, L.set m (s, putL M (a, b)) = R := ⟨_, rfl⟩
    have HRR := Lib.hid hRR
    rw [hRR] at HVV
    have HVZ := HVV
    have hxr2 := XR.out.lt
    clear h hb hA d00 d11 hso hrd hst9 hbk hput hS4 hRR e3 hi hnw
    go_upto_region 14 with fail
    refine wp_region_held_drew (S := (fun V => V.cell? ⟨W.heap.size, 0, none⟩ = some (.int .i64 a) ∧ V.cell? ⟨W.heap.size, 1, none⟩ = some (.int .i64 b))) (by kernel_rfl) (HS4.out) (fun hHeld => ?_)
    refine tk 0 hHeld ?_
    refine tk 1 hHeld ?_
    refine tk 2 hHeld ?_
    refine tk 3 hHeld ?_
    refine tk 4 hHeld ?_
    refine tk 5 hHeld ?_
    refine tk 7 hHeld ?_ (hy := fun w hSw => by (try dsimp only at hSw); have k0 := hSw.1; have k1 := hSw.2; clear hSw; go_simp; try with_reducible rfl)
    refine rd1 6 (fun K hK => ?_)
    go_simp
    refine hK.out _ _ hHeld (fun hHeld => ?_)
    clear hK K
    refine rd1 8 (fun K hK => ?_)
    go_simp
    go_at_call 61
    refine (HPUT.out).mono ?_
    intro e w5 h
    obtain ⟨v, rfl, hv, hb5⟩ := putX_elim h
    have hb45 : Below w4.heap.size w4 w5 := (Below.refl _ w4).drew.trans hb5
    have hv' : XRow w5 w4.heap.size v (putL M (a, b)) := hv
    obtain ⟨va, vc, rfl, hO5⟩ := hv'.sl R_Span_ok flat_Span
    have hrow := HBK.out w5 (putL M (a, b)) va vc hb45 (hO5.more fun k hk => hv'.blk k hk)
    rw [HRR.out] at hrow
    have hz5 := hb45.size
    have d1 : w5.cell? ⟨g, m * 2 + 1, none⟩ = some (.slice ba2 M.length bc2) := (hb45.cell (p := ⟨g, m * 2 + 1, none⟩) hgl).trans c4
    have f1 : w5.frozen? ⟨g, m * 2 + 1, none⟩ = false := (hb45.frozen (p := ⟨g, m * 2 + 1, none⟩) hgl).trans (HSO.out _)
    have hx6 := ((XR4.out.call hb45).far (b := g) (o := m * 2 + 1) (by omega) (.slice va (putL M (a, b)).length vc))
    have hb6 : Below W.heap.size W (w5.setCell ⟨g, m * 2 + 1, none⟩ (.slice va (putL M (a, b)).length vc)) := ((HB1.out.trans (HB4.out.mono HB1.out.size)).trans (hb45.mono (by have := HB1.out.size; omega))).setCell (p := ⟨g, m * 2 + 1, none⟩) (show W.heap.size ≤ g by omega) _
    have SF := Lib.hid (show w5.cell? ⟨W.heap.size, 0, none⟩ = some (.int .i64 a) ∧ w5.cell? ⟨W.heap.size, 1, none⟩ = some (.int .i64 b) from ⟨(XX4.out.call hb45).at_ 0 rfl, (XX4.out.call hb45).at_ 1 rfl⟩)
    have hxx6 := ((XX4.out.call hb45).far (b := g) (o := m * 2 + 1) (by omega) (.slice va (putL M (a, b)).length vc))
    have SF2 := Lib.hid (show (w5.setCell ⟨g, m * 2 + 1, none⟩ (.slice va (putL M (a, b)).length vc)).cell? ⟨W.heap.size, 0, none⟩ = some (.int .i64 a) ∧ (w5.setCell ⟨g, m * 2 + 1, none⟩ (.slice va (putL M (a, b)).length vc)).cell? ⟨W.heap.size, 1, none⟩ = some (.int .i64 b) from ⟨hxx6.at_ 0 rfl, hxx6.at_ 1 rfl⟩)
    have HX6 := Lib.hid hx6
    have HB6' := Lib.hid hb6
    have HROW' := Lib.hid hrow
    clear h hv hv' hb5 hb45 hrow hO5 hx6 hb6 hxx6
    refine hK.out _ _ SF.out (fun hHeld => ?_)
    clear hK K
    refine tk 9 hHeld ?_
    refine tk 10 hHeld ?_
    refine rd1 11 (fun K hK => ?_)
    go_simp
    refine hK.out _ _ SF2.out (fun hHeld => ?_)
    clear hK K
    refine rd0 ?_
    clear hHeld
    have hx6 := HX6.out
    have hb6 := HB6'.out
    have hrow := HROW'.out
    clear HX6 HB6' HROW' SF SF2 c4 d1 f1
    have X6 := Lib.hid hx6
    have HB6 := Lib.hid hb6
    have HROW := Lib.hid hrow
    have q0 := X6.out.at_ 0 rfl
    have q1 := X6.out.at_ 1 rfl
    have f0 := X6.out.soft 0
    have f1 := X6.out.soft 1
    clear hx6 hb6 hrow
    go_wp2
    rw [HVZ.out]
    refine bodyPost_ret (v := .agg #[.slice (some ⟨g, 0, none⟩) L.length c', .int .i64 0]) (by simp [results, Try.results14, go_sem, *]) rfl ⟨_, rfl, ((HROW.out.far (b := W.heap.size + 1) (by omega) 0 _).far (b := W.heap.size + 1) (by omega) 1 _).lower (by omega), (HB6.out.setCell (p := ⟨W.heap.size + 1, 0, none⟩) (show W.heap.size ≤ W.heap.size + 1 by omega) _).setCell (p := ⟨W.heap.size + 1, 1, none⟩) (show W.heap.size ≤ W.heap.size + 1 by omega) _⟩
end Go.Proofs.Ytfciojkibklkfaa.RepC
end
section
namespace Go.Proofs.Ytfciojkibklkfaa.DrawC
open Go.RowKit
structure But (g : Nat) (w w' : World) : Prop where
  os : w'.os = w.os
  tape : w'.tape = w.tape
  output : w'.output = w.output
  size : w.heap.size ≤ w'.heap.size
  block : ∀ k, k < w.heap.size → k ≠ g → w'.heap[k]? = w.heap[k]?
theorem But.refl (g : Nat) (w : World) : But g w w := ⟨rfl, rfl, rfl, Nat.le_refl _, fun _ _ _ => rfl⟩
theorem But.trans {g : Nat} {a b c : World} (h : But g a b) (k : But g b c) : But g a c :=
  ⟨k.os.trans h.os, k.tape.trans h.tape, k.output.trans h.output, Nat.le_trans h.size k.size, fun i hi hg => (k.block i (Nat.lt_of_lt_of_le hi h.size) hg).trans (h.block i hi hg)⟩
theorem But.drew {g : Nat} {a w : World} (h : But g a w) : But g a w.drew := ⟨h.os, h.tape, h.output, h.size, h.block⟩
theorem But.alloc {g : Nat} {a w : World} (h : But g a w) (o : Obj) : But g a (w.alloc o) :=
  h.trans ⟨rfl, rfl, rfl, by simp, fun _ hk _ => Below.heap_alloc _ _ _ hk⟩
theorem But.setCell {g : Nat} {a w : World} (h : But g a w) (o : Nat) (u : Value) : But g a (w.setCell ⟨g, o, none⟩ u) :=
  h.trans ⟨rfl, rfl, rfl, by simp [World.setCell], fun _ _ hg => Below.heap_setCell _ _ _ _ hg⟩
theorem But.of_below {g : Nat} {a w w' : World} (h : But g a w) (k : Below w.heap.size w w') : But g a w' :=
  h.trans ⟨k.os, k.tape, k.output, k.size, fun i hi _ => k.block i hi⟩
theorem But.below {g B : Nat} {w w' : World} (h : But g w w') (hB : B ≤ w.heap.size) (hg : B ≤ g) : Below B w w' :=
  ⟨h.os, h.tape, h.output, h.size, fun k hk => h.block k (by omega) (by omega)⟩
theorem But.cell {g : Nat} {w w' : World} (h : But g w w') {p : Addr} (hp : p.block < w.heap.size) (hg : p.block ≠ g) : w'.cell? p = w.cell? p := World.cell?_of_block (w := w) (h.block p.block hp hg)
theorem But.frozen {g : Nat} {w w' : World} (h : But g w w') {p : Addr} (hp : p.block < w.heap.size) (hg : p.block ≠ g) : w'.frozen? p = w.frozen? p := World.frozen?_of_block (w := w) (h.block p.block hp hg)
def Code' (g : Nat) (w : World) (b : Option Addr) (len : Nat) : Prop := ∀ x, b = some x → ∀ i, i < len → (x.block < g ∧ ∃ c : Nat, c < 256 ∧ w.cell? (x.add i) = some (.int .u8 c))
structure Src (g : Nat) (b : Option Addr) (len cap : Nat) (w : World) : Prop where
  lt : g < w.heap.size
  len0 : len ≤ 1048576
  nil : b = none → len = 0
  code : Code' g w b len
  cells : ∃ (at' mix : Nat) (size : Int), at' ≤ len ∧ mix < 18446744073709551616 ∧ 0 ≤ size ∧ size ≤ 12 ∧ w.cell? ⟨g, 0, none⟩ = some (.slice b len cap) ∧ w.cell? ⟨g, 1, none⟩ = some (.int .i64 at') ∧ w.cell? ⟨g, 2, none⟩ = some (.int .u64 mix) ∧ w.cell? ⟨g, 3, none⟩ = some (.int .i64 size)
  soft : ∀ j, w.frozen? ⟨g, j, none⟩ = false
def Drawn (g : Nat) (b : Option Addr) (len cap : Nat) (most : Int) (w : World) (e : Ending) (w' : World) : Prop :=
  ∃ v : Int, e = .returned (.int .i64 v) ∧ 0 ≤ v ∧ (v < most ∨ v = 0) ∧ Src g b len cap w' ∧ But g w w'
theorem bits_bd (o : BinOp) (a b : Int) : 0 ≤ bits o .u64 a b ∧ bits o .u64 a b < 18446744073709551616 := by
  unfold bits
  simp only [IntKind.wrap_u64]
  omega
theorem But.drewN {g : Nat} {a w : World} (h : But g a w) (k : Nat) : But g a (w.drewN k) := ⟨h.os, h.tape, h.output, h.size, h.block⟩
theorem gen_world {p : World → Prop} (W : World) (F : World → Prop) (hF : F W) (h : ∀ W1, F W1 → p W1) : p W := h W hF
structure Mid (g : Nat) (b : Option Addr) (len cap : Nat) (a : Int) (size : Int) (w W : World) : Prop where
  but : But g w W
  c0 : W.cell? ⟨g, 0, none⟩ = some (.slice b len cap)
  c1 : W.cell? ⟨g, 1, none⟩ = some (.int .i64 a)
  c2 : ∃ m : Nat, m < 18446744073709551616 ∧ W.cell? ⟨g, 2, none⟩ = some (.int .u64 m)
  c3 : W.cell? ⟨g, 3, none⟩ = some (.int .i64 size)
  soft : ∀ j, W.frozen? ⟨g, j, none⟩ = false
theorem Mid.mix {g : Nat} {b : Option Addr} {len cap : Nat} {a size : Int} {w W : World} (h : Mid g b len cap a size w W) {v : Int} (h0 : 0 ≤ v) (h1 : v < 18446744073709551616) :
    Mid g b len cap a size w ((W.setCell ⟨g, 2, none⟩ (.int .u64 v)).drew) := by
  obtain ⟨m, _, c2⟩ := h.c2
  refine ⟨(h.but.setCell 2 _).drew, ?_, ?_, ⟨v.toNat, by omega, ?_⟩, ?_, fun j => ?_⟩
  · simp [go_sem, h.c0]
  · simp [go_sem, h.c1]
  · rw [show ((v.toNat : Nat) : Int) = v by omega]; simp [go_sem, c2]
  · simp [go_sem, h.c3]
  · simpa using h.soft j
theorem Mid.count {g : Nat} {b : Option Addr} {len cap : Nat} {a size : Int} {w W : World} (h : Mid g b len cap a size w W) (a2 : Int) :
    Mid g b len cap a2 size w (W.setCell ⟨g, 1, none⟩ (.int .i64 a2)) := by
  obtain ⟨m, hm, c2⟩ := h.c2
  refine ⟨h.but.setCell 1 _, ?_, ?_, ⟨m, hm, ?_⟩, ?_, fun j => ?_⟩
  · simp [go_sem, h.c0]
  · simp [go_sem, h.c1]
  · simp [go_sem, c2]
  · simp [go_sem, h.c3]
  · simpa using h.soft j
theorem Mid.drewN {g : Nat} {b : Option Addr} {len cap : Nat} {a size : Int} {w W : World} (h : Mid g b len cap a size w W) (k : Nat) : Mid g b len cap a size w (W.drewN k) :=
  ⟨h.but.drewN k, by simpa using h.c0, by simpa using h.c1, by simpa using h.c2, by simpa using h.c3, fun j => by simpa using h.soft j⟩
theorem Mid.src {g : Nat} {b : Option Addr} {len cap : Nat} {a : Nat} {size : Int} {w W : World} (h : Mid g b len cap a size w W) (hs : Src g b len cap w) (ha : a ≤ len) (s0 : 0 ≤ size) (s1 : size ≤ 12) : Src g b len cap W := by
  obtain ⟨m, hm, c2⟩ := h.c2
  refine ⟨Nat.lt_of_lt_of_le hs.lt h.but.size, hs.len0, hs.nil, fun x hx => ?_, ⟨a, m, size, ha, hm, s0, s1, h.c0, h.c1, c2, h.c3⟩, h.soft⟩
  intro i hi
  obtain ⟨hg, c, hc, e⟩ := hs.code x hx i hi
  refine ⟨hg, ?_⟩
  have hb : (x.add i).block = x.block := by cases i <;> simp [Addr.add]
  exact ⟨c, hc, (h.but.cell (p := x.add i) (by rw [hb]; exact Nat.lt_trans hg hs.lt) (by rw [hb]; omega)).trans e⟩
theorem rem_bd (X : Int) {most : Int} (hm : 1 < most) (hm2 : most ≤ 9223372036854775807) : 0 ≤ wrap64 (X % most) ∧ wrap64 (X % most) < most := by
  have h1 := Int.emod_nonneg X (show most ≠ 0 by omega)
  have h2 := Int.emod_lt_of_pos X (show 0 < most by omega)
  unfold wrap64
  omega
set_option maxRecDepth 100000 in
set_option maxHeartbeats 1000000 in
theorem n_more (g : Nat) (b : Option Addr) (len cap : Nat) (most : Int) (w : World) (h : Src g b len cap w) (hm : 1 < most) (hm2 : most ≤ 9223372036854775807) :
    Calls Try.prog 46 #[.pointer (some ⟨g, 0, none⟩), .int .i64 most] w (Drawn g b len cap most w) := by
  have HS := Lib.hid h
  obtain ⟨hlt, hlen, hnil, hcode, ⟨at', mix, size, hat, hmix, hs0, hs1, c0, c1, c2, c3⟩, hf⟩ := h
  have HM : Hid (Mid g b len cap at' size w w) := Lib.hid ⟨But.refl _ _, c0, c1, ⟨mix, hmix, c2⟩, c3, hf⟩
  have f1 := hf 1
  have f2 := hf 2
  have HC := Lib.hid hcode
  by_cases ha : at' < len
  · obtain ⟨x, rfl⟩ : ∃ x, b = some x := by
      cases b with
      | none => have := hnil rfl; omega
      | some x => exact ⟨x, rfl⟩
    obtain ⟨hxg, c, hc, hrow⟩ := HC.out x rfl at' ha
    clear hf hcode hnil
    go_enter Try.func46, Try.ntmps46
    go_wp2
    go_quiet (fail)
    go_wp2
    go_quiet (fail)
    go_wp2
    refine gen_world (p := fun W => Code.wp _ _ _ _ W) _ (Mid g (some x) len cap (at' + 1 : Nat) size w) ((HM.out.drewN _).count _) ?_
    rintro W ⟨hb1, d0, d1, ⟨m, hm1, d2⟩, d3, e⟩
    have HM2 : Hid (Mid g (some x) len cap (at' + 1 : Nat) size w W) := Lib.hid ⟨hb1, d0, d1, ⟨m, hm1, d2⟩, d3, e⟩
    have f1 := e 1
    have f2 := e 2
    clear hb1 e c0 c1 c2 c3
    go_region
    refine gen_world (p := fun W => Exit.then _ _ Exit.normal _ W) _ (Mid g (some x) len cap (at' + 1 : Nat) size w) (HM2.out.mix (bits_bd _ _ _).1 (bits_bd _ _ _).2) ?_
    clear HM2 d0 d1 d2 d3 f1 f2
    rintro W ⟨hb1, d0, d1, ⟨m, hm1, d2⟩, d3, e⟩
    have HM2 : Hid (Mid g (some x) len cap (at' + 1 : Nat) size w W) := Lib.hid ⟨hb1, d0, d1, ⟨m, hm1, d2⟩, d3, e⟩
    have f1 := e 1
    have f2 := e 2
    clear hb1 e
    go_wp2
    go_region
    refine gen_world (p := fun W => Exit.then _ _ Exit.normal _ W) _ (Mid g (some x) len cap (at' + 1 : Nat) size w) (HM2.out.mix (bits_bd _ _ _).1 (bits_bd _ _ _).2) ?_
    clear HM2 d0 d1 d2 d3 f1 f2
    rintro W ⟨hb1, d0, d1, ⟨m, hm1, d2⟩, d3, e⟩
    have HM2 : Hid (Mid g (some x) len cap (at' + 1 : Nat) size w W) := Lib.hid ⟨hb1, d0, d1, ⟨m, hm1, d2⟩, d3, e⟩
    have f1 := e 1
    have f2 := e 2
    clear hb1 e
    go_wp2
    go_region
    refine gen_world (p := fun W => Exit.then _ _ Exit.normal _ W) _ (Mid g (some x) len cap (at' + 1 : Nat) size w) (HM2.out.mix (bits_bd _ _ _).1 (bits_bd _ _ _).2) ?_
    clear HM2 d0 d1 d2 d3 f1 f2
    rintro W ⟨hb1, d0, d1, ⟨m, hm1, d2⟩, d3, e⟩
    have HM2 : Hid (Mid g (some x) len cap (at' + 1 : Nat) size w W) := Lib.hid ⟨hb1, d0, d1, ⟨m, hm1, d2⟩, d3, e⟩
    clear hb1 e
    go_wp2
    go_ret
    unfold Drawn
    exact ⟨_, rfl, (rem_bd _ hm hm2).1, .inl (rem_bd _ hm hm2).2, HM2.out.src HS.out (by omega) hs0 hs1, HM2.out.but⟩
  · clear hf hcode hnil
    go_enter Try.func46, Try.ntmps46
    go_wp2
    go_quiet (fail)
    go_wp2
    refine gen_world (p := fun W => Code.wp _ _ _ _ W) _ (Mid g b len cap at' size w) (HM.out.drewN _) ?_
    rintro W ⟨hb1, d0, d1, ⟨m, hm1, d2⟩, d3, e⟩
    have HM2 : Hid (Mid g b len cap at' size w W) := Lib.hid ⟨hb1, d0, d1, ⟨m, hm1, d2⟩, d3, e⟩
    have f1 := e 1
    have f2 := e 2
    clear hb1 e c0 c1 c2 c3
    go_region
    refine gen_world (p := fun W => Exit.then _ _ Exit.normal _ W) _ (Mid g b len cap at' size w) (HM2.out.mix (bits_bd _ _ _).1 (bits_bd _ _ _).2) ?_
    clear HM2 d0 d1 d2 d3 f1 f2
    rintro W ⟨hb1, d0, d1, ⟨m, hm1, d2⟩, d3, e⟩
    have HM2 : Hid (Mid g b len cap at' size w W) := Lib.hid ⟨hb1, d0, d1, ⟨m, hm1, d2⟩, d3, e⟩
    have f1 := e 1
    have f2 := e 2
    clear hb1 e
    go_wp2
    go_region
    refine gen_world (p := fun W => Exit.then _ _ Exit.normal _ W) _ (Mid g b len cap at' size w) (HM2.out.mix (bits_bd _ _ _).1 (bits_bd _ _ _).2) ?_
    clear HM2 d0 d1 d2 d3 f1 f2
    rintro W ⟨hb1, d0, d1, ⟨m, hm1, d2⟩, d3, e⟩
    have HM2 : Hid (Mid g b len cap at' size w W) := Lib.hid ⟨hb1, d0, d1, ⟨m, hm1, d2⟩, d3, e⟩
    have f1 := e 1
    have f2 := e 2
    clear hb1 e
    go_wp2
    go_region
    refine gen_world (p := fun W => Exit.then _ _ Exit.normal _ W) _ (Mid g b len cap at' size w) (HM2.out.mix (bits_bd _ _ _).1 (bits_bd _ _ _).2) ?_
    clear HM2 d0 d1 d2 d3 f1 f2
    rintro W ⟨hb1, d0, d1, ⟨m, hm1, d2⟩, d3, e⟩
    have HM2 : Hid (Mid g b len cap at' size w W) := Lib.hid ⟨hb1, d0, d1, ⟨m, hm1, d2⟩, d3, e⟩
    clear hb1 e
    go_wp2
    go_ret
    unfold Drawn
    exact ⟨_, rfl, (rem_bd _ hm hm2).1, .inl (rem_bd _ hm hm2).2, HM2.out.src HS.out (by omega) hs0 hs1, HM2.out.but⟩
theorem n_any (g : Nat) (b : Option Addr) (len cap : Nat) (most : Int) (w : World) (h : Src g b len cap w) (hm2 : most ≤ 9223372036854775807) :
    Calls Try.prog 46 #[.pointer (some ⟨g, 0, none⟩), .int .i64 most] w (Drawn g b len cap most w) := by
  by_cases hm : 1 < most
  · exact n_more g b len cap most w h hm hm2
  · have HS := Lib.hid h
    clear h
    go_enter Try.func46, Try.ntmps46
    go_wp2
    go_ret
    unfold Drawn
    exact ⟨0, rfl, by omega, .inr rfl, HS.out, But.refl _ _⟩
def DrawnB (g : Nat) (b : Option Addr) (len cap : Nat) (w : World) (e : Ending) (w' : World) : Prop :=
  ∃ v : Bool, e = .returned (.bool v) ∧ Src g b len cap w' ∧ But g w w'
theorem one_any (g : Nat) (b : Option Addr) (len cap : Nat) (most : Int) (w : World) (h : Src g b len cap w) (hm2 : most ≤ 9223372036854775807) :
    Calls Try.prog 62 #[.pointer (some ⟨g, 0, none⟩), .int .i64 most] w (DrawnB g b len cap w) := by
  have HS := Lib.hid h
  clear h
  go_enter Try.func62, Try.ntmps62
  go_wp2_with fail
  refine (n_any g b len cap most _ HS.out hm2).mono ?_
  rintro e w1 ⟨v, rfl, h0, h1, hs, hb⟩
  have HR : Hid (Src g b len cap w1 ∧ But g w w1) := Lib.hid ⟨hs, hb⟩
  clear hs hb
  go_wp2
  go_ret
  unfold DrawnB
  exact ⟨_, rfl, HR.out⟩
def DrawnI (g : Nat) (b : Option Addr) (len cap : Nat) (w : World) (e : Ending) (w' : World) : Prop :=
  ∃ v : Int, e = .returned (.int .i64 v) ∧ -9223372036854775808 ≤ v ∧ v ≤ 9223372036854775807 ∧ Src g b len cap w' ∧ But g w w'
theorem tab_get {k : Nat} (h : k < 14) : ∃ z : Int, (-9223372036854775808 ≤ z ∧ z ≤ 9223372036854775807) ∧ (#[.int .i64 0, .int .i64 1, .int .i64 (-1), .int .i64 2, .int .i64 1000, .int .i64 1001, .int .i64 2147483648, .int .i64 2147483647, .int .i64 (-2147483648), .int .i64 4611686018427387904, .int .i64 9223372036854775807, .int .i64 (-9223372036854775808), .int .i64 1000000, .int .i64 1000001] : Array Value)[k]? = some (.int .i64 z) := by
  have : k = 0 ∨ k = 1 ∨ k = 2 ∨ k = 3 ∨ k = 4 ∨ k = 5 ∨ k = 6 ∨ k = 7 ∨ k = 8 ∨ k = 9 ∨ k = 10 ∨ k = 11 ∨ k = 12 ∨ k = 13 := by omega
  rcases this with rfl | rfl | rfl | rfl | rfl | rfl | rfl | rfl | rfl | rfl | rfl | rfl | rfl | rfl
  all_goals exact ⟨_, ⟨by decide, by decide⟩, rfl⟩
theorem Src.mono {g : Nat} {b : Option Addr} {len cap : Nat} {w w' : World} (h : Src g b len cap w) (hb : Below (g + 1) w w') : Src g b len cap w' := by
  obtain ⟨a, m, s, h1, h2, h3, h4, c0, c1, c2, c3⟩ := h.cells
  refine ⟨Nat.lt_of_lt_of_le h.lt hb.size, h.len0, h.nil, fun x hx => ?_, ⟨a, m, s, h1, h2, h3, h4, (hb.cell (p := ⟨g, 0, none⟩) (Nat.lt_succ_self _)).trans c0, (hb.cell (p := ⟨g, 1, none⟩) (Nat.lt_succ_self _)).trans c1, (hb.cell (p := ⟨g, 2, none⟩) (Nat.lt_succ_self _)).trans c2, (hb.cell (p := ⟨g, 3, none⟩) (Nat.lt_succ_self _)).trans c3⟩, fun j => (hb.frozen (p := ⟨g, j, none⟩) (Nat.lt_succ_self _)).trans (h.soft j)⟩
  intro i hi
  obtain ⟨hg, c, hc, e⟩ := h.code x hx i hi
  refine ⟨hg, ?_⟩
  have hx' : (x.add i).block = x.block := by cases i <;> simp [Addr.add]
  exact ⟨c, hc, (hb.cell (p := x.add i) (by rw [hx']; omega)).trans e⟩
theorem Src.alloc {g : Nat} {b : Option Addr} {len cap : Nat} {w : World} (h : Src g b len cap w) (o : Obj) : Src g b len cap (w.alloc o) :=
  h.mono ((Below.refl _ _).alloc h.lt _)
theorem edge_any (g : Nat) (b : Option Addr) (len cap : Nat) (w : World) (h : Src g b len cap w) :
    Calls Try.prog 63 #[.pointer (some ⟨g, 0, none⟩)] w (DrawnI g b len cap w) := by
  have HS := Lib.hid h
  clear h
  go_enter Try.func63, Try.ntmps63
  go_wp2_with fail
  refine (n_any g b len cap _ _ (HS.out.alloc _) (by omega)).mono ?_
  rintro e w1 ⟨v, rfl, h0, h1, hs, hb⟩
  obtain ⟨k, rfl⟩ := Int.eq_ofNat_of_zero_le h0
  have hk : k < 14 := by omega
  obtain ⟨z, hzb, hz⟩ := tab_get hk
  have hg := HS.out.lt
  have hc := hb.cell (p := ⟨w.heap.size, k, none⟩) (by simp) (show w.heap.size ≠ g by omega)
  have hc2 : w1.cell? ⟨w.heap.size, k, none⟩ = some (.int .i64 z) := by
    rw [hc, World.cell?_alloc_new]
    exact hz
  have HR : Hid (Src g b len cap w1 ∧ But g w w1) := Lib.hid ⟨hs, ((But.refl _ _).alloc _).trans hb⟩
  clear hs hb h0 h1 hz hc
  go_wp2
  go_ret
  unfold DrawnI
  exact ⟨_, rfl, hzb.1, hzb.2, HR.out⟩
def Made (b : Option Addr) (len cap : Nat) (w : World) (e : Ending) (w' : World) : Prop :=
  e = .returned (.pointer (some ⟨w.heap.size, 0, none⟩)) ∧ Src w.heap.size b len cap w' ∧ Below w.heap.size w w'
def CodeIn (w : World) (b : Option Addr) (len : Nat) : Prop := (b = none → len = 0) ∧ ∀ x, b = some x → ∀ i, i < len → (x.block < w.heap.size ∧ ∃ c : Nat, c < 256 ∧ w.cell? (x.add i) = some (.int .u8 c))
theorem Mid.size {g : Nat} {b : Option Addr} {len cap : Nat} {a size : Int} {w W : World} (h : Mid g b len cap a size w W) (s2 : Int) :
    Mid g b len cap a s2 w (W.setCell ⟨g, 3, none⟩ (.int .i64 s2)) := by
  obtain ⟨m, hm, c2⟩ := h.c2
  refine ⟨h.but.setCell 3 _, ?_, ?_, ⟨m, hm, ?_⟩, ?_, fun j => ?_⟩
  · simp [go_sem, h.c0]
  · simp [go_sem, h.c1]
  · simp [go_sem, c2]
  · simp [go_sem, h.c3]
  · simpa using h.soft j
theorem wrap_bd (x : Int) : 0 ≤ IntKind.u64.wrap x ∧ IntKind.u64.wrap x < 18446744073709551616 := by simp only [IntKind.wrap_u64]; omega
theorem CodeIn.at {w : World} {x : Addr} {len i : Nat} (h : CodeIn w (some x) len) (hi : i < len) {o : Obj} {W : World} (hb : But w.heap.size (w.alloc o) W) : ∃ c : Nat, c < 256 ∧ W.cell? (x.add i) = some (.int .u8 c) := by
  obtain ⟨hx, c, hc, e⟩ := h.2 x rfl i hi
  have hx' : (x.add i).block = x.block := by cases i <;> simp [Addr.add]
  exact ⟨c, hc, ((hb.cell (p := x.add i) (by rw [hx']; simp; omega) (by rw [hx']; omega)).trans (World.cell?_alloc_lt _ _ _ (by rw [hx']; exact hx))).trans e⟩
theorem Mid.made {b : Option Addr} {len cap a : Nat} {size : Int} {w W : World} {o : Obj} (h : Mid w.heap.size b len cap a size (w.alloc o) W) (hc : CodeIn w b len) (hl : len ≤ 1048576) (ha : a ≤ len) (s0 : 0 ≤ size) (s1 : size ≤ 12) :
    Src w.heap.size b len cap W ∧ Below w.heap.size w W := by
  obtain ⟨m, hm, c2⟩ := h.c2
  refine ⟨⟨Nat.lt_of_lt_of_le (by simp) h.but.size, hl, hc.1, fun x hx => ?_, ⟨a, m, size, ha, hm, s0, s1, h.c0, h.c1, c2, h.c3⟩, h.soft⟩, ((Below.refl _ _).alloc (Nat.le_refl _) o).trans (h.but.below (by simp) (Nat.le_refl _))⟩
  subst hx
  exact fun i hi => ⟨(hc.2 x rfl i hi).1, hc.at hi h.but⟩
set_option maxRecDepth 100000 in
theorem source_any (b : Option Addr) (len cap : Nat) (w : World) (hlen : len ≤ 1048576) (h : CodeIn w b len) :
    Calls Try.prog 45 #[.slice b len cap] w (Made b len cap w) := by
  have HC := Lib.hid h
  have hn := h.1
  clear h
  go_enter Try.func45, Try.ntmps45
  go_wp2
  go_loopw [4] (fun i w1 => ∃ k : Nat, k ≤ len ∧ k ≤ 64 ∧ i = .int .i64 k ∧ Mid w.heap.size b len cap 0 0 (w.alloc (.cells #[.slice b len cap, .int .i64 0, .int .u64 88172645463325252, .int .i64 0] 94)) w1) (fun i _ => 64 - (intOf i).toNat)
  case atStart =>
    exact ⟨0, by omega, by omega, rfl, But.refl _ _, by simp, by simp, ⟨88172645463325252, by omega, by simp⟩, by simp, fun j => by simp⟩
  case round =>
    obtain ⟨k, hk, hk64, rfl, hm⟩ := hrel
    have HM := Lib.hid hm
    by_cases hlt : k < len ∧ k < 64
    · obtain ⟨h1, h2⟩ := hlt
      obtain ⟨x, rfl⟩ : ∃ x, b = some x := by
        cases b with
        | none => have := hn rfl; omega
        | some x => exact ⟨x, rfl⟩
      obtain ⟨c, hc, hcell⟩ := HC.out.at h1 hm.but
      obtain ⟨hb1, d0, d1, ⟨m, hm1, d2⟩, d3, e⟩ := hm
      have f2 := e 2
      clear hb1 e hn
      go_wp2
      go_region
      all_goals go_wp2
      go_roundw
      case rel => exact ⟨k + 1, by omega, by omega, by go_num, HM.out.mix (wrap_bd _).1 (wrap_bd _).2⟩
      case measure => simp [intOf]; omega
    · obtain ⟨hb1, d0, d1, ⟨m, hm1, d2⟩, d3, e⟩ := hm
      have f3 := e 3
      clear hb1 e hn
      by_cases h3 : (len : Int) / 20 ≤ 12
      · go_wp2
        all_goals
          go_ret
          unfold Made
          exact ⟨rfl, (HM.out.size _).made (a := 0) HC.out hlen (Nat.zero_le _) (by omega) (by omega)⟩
      · go_wp2
        all_goals
          go_ret
          unfold Made
          exact ⟨rfl, ((HM.out.size _).size _).made (a := 0) HC.out hlen (Nat.zero_le _) (by omega) (by omega)⟩
theorem ownsRow_but {w w' : World} {g base : Nat} {e : TypeId} {size : Nat} {v : Value} {n : Nat} {xs : List Value} (h : w.ownsRow base e size v n xs) (hb : But g w w') (hg : g < base) : w'.ownsRow base e size v n xs := by
  obtain ⟨hl, h | ⟨k, cap, cur, hv, hk, hc, r⟩⟩ := h
  · exact ⟨hl, .inl h⟩
  · have hlt : k < w.heap.size := by
      rcases Nat.lt_or_ge k w.heap.size with h | h
      · exact h
      · rw [Array.getElem?_eq_none h] at hc; cases hc
    exact ⟨hl, .inr ⟨k, cap, cur, hv, hk, (hb.block k hlt (by omega)).trans hc, r⟩⟩
theorem But.grown {g : Nat} {a w w' : World} {row : Option Nat} (h : But g a w) (hg : w.grownBy w' row) (hr : ∀ k, row = some k → a.heap.size ≤ k) : But g a w' :=
  ⟨hg.os.trans h.os, hg.tape.trans h.tape, hg.output.trans h.output, Nat.le_trans h.size hg.size, fun k hk hkg => (hg.block k (Nat.lt_of_lt_of_le hk h.size) (fun e => by have := hr k e.symm; omega)).trans (h.block k hk hkg)⟩
theorem Src.grown {g : Nat} {b : Option Addr} {len cap : Nat} {w w' : World} {row : Option Nat} (h : Src g b len cap w) (hg : w.grownBy w' row) (hr : ∀ k, row = some k → g < k) : Src g b len cap w' :=
  h.mono ((Below.refl _ _).grown hg h.lt (fun k hk => hr k hk))
def Reads (w : World) (b : Option Addr) (len : Nat) : Prop := (b = none → len = 0) ∧ ∀ x, b = some x → ∀ i, i < len → ∃ c : Nat, c < 256 ∧ w.cell? (x.add i) = some (.int .u8 c)
theorem Reads.of {w : World} {b : Option Addr} {len : Nat} (h : CodeIn w b len) : Reads w b len := ⟨h.1, fun x hx i hi => (h.2 x hx i hi).2⟩
theorem CodeIn.below {w w' : World} {b : Option Addr} {len : Nat} (h : CodeIn w b len) (hb : Below w.heap.size w w') : CodeIn w' b len := by
  refine ⟨h.1, fun x hx i hi => ?_⟩
  obtain ⟨hl, c, hc, e⟩ := h.2 x hx i hi
  refine ⟨Nat.lt_of_lt_of_le hl hb.size, ?_⟩
  have hx' : (x.add i).block = x.block := by cases i <;> simp [Addr.add]
  exact ⟨c, hc, (hb.cell (p := x.add i) (by rw [hx']; exact hl)).trans e⟩
theorem CodeIn.of_row {w : World} {a : Option Addr} {len cap : Nat} {zs : List Int}
    (h : (a = none ∧ len = 0 ∧ cap = 0 ∧ zs = []) ∨ ∃ x, a = some x ∧ len ≤ cap ∧ cap ≤ maxLen ∧ zs.length = cap ∧ (∀ i, i < zs.length → w.cell? (x.add i) = some (.int .u8 (zs.getD i 0))) ∧ ∀ n ∈ zs, (Lit.int .u8 n).wf = true) : CodeIn w a len ∧ len ≤ maxLen := by
  rcases h with ⟨rfl, rfl, rfl, rfl⟩ | ⟨x, rfl, hl, hm, hz, hc, hw⟩
  · exact ⟨⟨fun _ => rfl, fun x hx => (by cases hx)⟩, by unfold maxLen; omega⟩
  · refine ⟨⟨fun hx => (by cases hx), fun y hy i hi => ?_⟩, Nat.le_trans hl hm⟩
    obtain rfl := Option.some.inj hy
    have hi' : i < zs.length := by omega
    have hcell := hc i hi'
    have hx' : (x.add i).block = x.block := by cases i <;> simp [Addr.add]
    have hwf := hw (zs.getD i 0) (by rw [List.getD, List.getElem?_eq_getElem hi']; exact List.getElem_mem hi')
    generalize zs.getD i 0 = n at hwf hcell
    simp [Lit.wf, IntKind.min, IntKind.max, IntKind.signed, IntKind.bits] at hwf
    refine ⟨hx' ▸ World.block_lt_of_cell? w _ hcell, n.toNat, by omega, ?_⟩
    rw [hcell, show ((n.toNat : Nat) : Int) = n by omega]
end Go.Proofs.Ytfciojkibklkfaa.DrawC
end
section
namespace Go.Proofs.Ytfciojkibklkfaa.SpanC
open Go.RowKit KeptC RowC ValC DrawC RepC
set_option linter.unusedVariables false
set_option linter.unusedSimpArgs false
theorem butSet {g : Nat} {a w : World} (h : But g a w) {p : Addr} (hp : a.heap.size ≤ p.block) (u : Value) : But g a (w.setCell p u) :=
  ⟨h.os, h.tape, h.output, by have := h.size; simpa [World.setCell] using this, fun k hk hg => (Below.heap_setCell w p u k (by omega)).trans (h.block k hk hg)⟩
theorem blkBut {w w' : World} {k g : Nat} {t : TypeId} {cs : Array Value} (h : Blk w k t cs) (hb : But g w w') (hk : k ≠ g) : Blk w' k t cs := (hb.block k h.lt hk).trans h
theorem srcSet {g : Nat} {b : Option Addr} {len cap : Nat} {w : World} (h : Src g b len cap w) {p : Addr} (hp : g < p.block) (u : Value) : Src g b len cap (w.setCell p u) := h.mono ((Below.refl _ _).setCell hp u)
theorem srcDrew {g : Nat} {b : Option Addr} {len cap : Nat} {w : World} (h : Src g b len cap w) : Src g b len cap w.drew := h.mono (Below.refl _ _).drew
def DrawnX (g : Nat) (b : Option Addr) (len cap : Nat) (w : World) (e : Ending) (w' : World) : Prop := ∃ x y : Int, e = .returned (.agg #[.int .i64 x, .int .i64 y]) ∧ Src g b len cap w' ∧ But g w w'
theorem drawnX_elim {g : Nat} {b : Option Addr} {len cap : Nat} {w : World} {e : Ending} {w' : World} (h : DrawnX g b len cap w e w') : ∃ x y : Int, e = .returned (.agg #[.int .i64 x, .int .i64 y]) ∧ Src g b len cap w' ∧ But g w w' := h
set_option maxRecDepth 100000 in
set_option maxHeartbeats 1600000 in
theorem span_any (g : Nat) (b : Option Addr) (len cap : Nat) (w : World) (h : Src g b len cap w) :
    Calls Try.prog 48 #[.pointer (some ⟨g, 0, none⟩)] w (DrawnX g b len cap w) := by
  have hg := h.lt
  have HS := Lib.hid (h.alloc (.cells #[.int .i64 0, .int .i64 0] 25))
  have HR := Lib.hid (Blk.new w 25 #[.int .i64 0, .int .i64 0])
  have hgr : w.heap.size ≠ g := by omega
  clear h
  go_enter Try.func48, Try.ntmps48
  go_wp2_with fail
  refine (n_any g b len cap 30 _ HS.out (by omega)).mono ?_
  rintro e w1 ⟨x, rfl, _, _, hs, hb⟩
  have HB1 := Lib.hid (((But.refl g w).alloc _).trans hb)
  have HR1 := Lib.hid (blkBut HR.out hb hgr)
  have HS1 := Lib.hid hs
  clear hs hb HS HR
  go_wp2_with fail
  refine (n_any g b len cap 8 _ HS1.out (by omega)).mono ?_
  rintro e w2 ⟨y, rfl, _, _, hs, hb⟩
  have HB2 := Lib.hid (HB1.out.trans hb)
  have HR2 := Lib.hid (blkBut HR1.out hb hgr)
  have HS2 := Lib.hid hs
  have hw2 := HR2.out.lt
  have hgw2 := hs.lt
  clear hs hb HS1 HR1 HB1
  go_wp2_with fail
  have HX2 := Lib.hid (Blk.new w2 25 #[.int .i64 x, .int .i64 (x + 1 + y)])
  refine (one_any g b len cap 20 _ (HS2.out.alloc _) (by omega)).mono ?_
  rintro e w3 ⟨v, rfl, hs, hb⟩
  have HB3 := Lib.hid ((HB2.out.alloc _).trans hb)
  have HR3 := Lib.hid (blkBut (HR2.out.alloc _) hb hgr)
  have HX3 := Lib.hid (blkBut HX2.out hb (by omega))
  have hw3 := HX3.out.lt
  have HS3 := Lib.hid hs
  clear hs hb HS2 HR2 HB2 HX2
  cases v with
  | false =>
    have x0 := HX3.out.at_ 0 rfl
    have x1 := HX3.out.at_ 1 rfl
    have r0 := HR3.out.at_ 0 rfl
    have r1 := HR3.out.at_ 1 rfl
    have f0 := HR3.out.soft 0
    have f1 := HR3.out.soft 1
    go_wp2
    refine bodyPost_ret (v := .agg #[.int .i64 x, .int .i64 (x + 1 + y)]) (by simp [results, Try.results48, go_sem, *]) rfl ?_
    exact ⟨_, _, rfl, srcSet (srcSet HS3.out (p := ⟨w.heap.size, 0, none⟩) hg _) (p := ⟨w.heap.size, 1, none⟩) hg _, butSet (butSet HB3.out (p := ⟨w.heap.size, 0, none⟩) (Nat.le_refl _) _) (p := ⟨w.heap.size, 1, none⟩) (Nat.le_refl _) _⟩
  | true =>
    go_wp2_with fail
    have HT := Lib.hid (Blk.new w3 2 #[.int .i64 x, .int .i64 1000000, .int .i64 1000001])
    refine (n_any g b len cap 3 _ (HS3.out.alloc _) (by omega)).mono ?_
    rintro e w4 ⟨q, rfl, hq0, hq1, hs, hb⟩
    have HB4 := Lib.hid ((HB3.out.alloc _).trans hb)
    have HR4 := Lib.hid (blkBut (HR3.out.alloc _) hb hgr)
    have HX4 := Lib.hid (blkBut (HX3.out.alloc _) hb (by omega))
    have HT4 := Lib.hid (blkBut HT.out hb (by omega))
    have HS4 := Lib.hid hs
    obtain ⟨k, z, rfl, hk, hks⟩ : ∃ (k : Nat) (z : Int), q = (k : Int) ∧ k < 3 ∧ (#[.int .i64 x, .int .i64 1000000, .int .i64 1000001] : Array Value)[k]? = some (.int .i64 z) := by
      have : q = 0 ∨ q = 1 ∨ q = 2 := by omega
      rcases this with rfl | rfl | rfl
      · exact ⟨0, _, rfl, by decide, rfl⟩
      · exact ⟨1, _, rfl, by decide, rfl⟩
      · exact ⟨2, _, rfl, by decide, rfl⟩
    have hc := HT4.out.at_ k hks
    have x0 := HX4.out.at_ 0 rfl
    have x1 := HX4.out.at_ 1 rfl
    have r0 := HR4.out.at_ 0 rfl
    have r1 := HR4.out.at_ 1 rfl
    have f0 := HR4.out.soft 0
    have f1 := HR4.out.soft 1
    have g0 := HX4.out.soft 0
    have g1 := HX4.out.soft 1
    have hne : w.heap.size ≠ w2.heap.size := by omega
    have hw24 : w2.heap.size ≠ g := by omega
    clear hs hb hks HT HT4 HX3 HR3 HS3 HB3
    go_wp2
    refine bodyPost_ret (v := .agg #[.int .i64 x, .int .i64 z]) (by simp [results, Try.results48, go_sem, *]) rfl ?_
    have hb2 : g < w2.heap.size := hgw2
    exact ⟨_, _, rfl, srcSet (srcSet (srcSet HS4.out (p := ⟨w2.heap.size, 1, none⟩) hb2 _) (p := ⟨w.heap.size, 0, none⟩) hg _) (p := ⟨w.heap.size, 1, none⟩) hg _, butSet (butSet (butSet HB4.out (p := ⟨w2.heap.size, 1, none⟩) (Nat.le_of_lt hw2) _) (p := ⟨w.heap.size, 0, none⟩) (Nat.le_refl _) _) (p := ⟨w.heap.size, 1, none⟩) (Nat.le_refl _) _⟩
theorem butRowS {g lo n : Nat} {w w' : World} {v : Value} {f : Nat → Int × Int} (h : RowS w lo v n f) (hb : But g w w') (hg : g < lo) : RowS w' lo v n f := ownsRow_but h hb hg
theorem putP_len {n : Nat} {f : Nat → Int × Int} {a b : Int} {m : Nat} {h : Nat → Int × Int} (hp : PutP n f a b m h) : m ≤ n + 1 := by
  rcases hp with ⟨_, rfl⟩ | ⟨_, _, rfl, _⟩ | ⟨_, _, _, rfl, _⟩ <;> omega
theorem rowO_blk {W : World} {lo s n : Nat} {T : TypeId} {v : Value} {c : Nat → Value} (h : RowO W lo T s v n c) : ∀ k, v.ownBlock = some k → lo ≤ k := by
  obtain ⟨_, h2⟩ := h
  rcases h2 with ⟨rfl, _⟩ | ⟨g, cap, cur, rfl, hlo, _⟩
  · intro k hk; cases hk
  · intro k hk; cases hk; exact hlo
def DrawnSp (B g : Nat) (b : Option Addr) (len cap : Nat) (w : World) (e : Ending) (w' : World) : Prop := ∃ (v : Value) (n : Nat) (f : Nat → Int × Int), e = .returned v ∧ n ≤ 21 ∧ RowS w' B v n f ∧ Src g b len cap w' ∧ But g w w'
theorem drawnSp_elim {B g : Nat} {b : Option Addr} {len cap : Nat} {w : World} {e : Ending} {w' : World} (h : DrawnSp B g b len cap w e w') : ∃ (v : Value) (n : Nat) (f : Nat → Int × Int), e = .returned v ∧ n ≤ 21 ∧ RowS w' B v n f ∧ Src g b len cap w' ∧ But g w w' := h
set_option maxRecDepth 100000 in
set_option maxHeartbeats 3200000 in
theorem spans_any (g : Nat) (b : Option Addr) (len cap : Nat) (w : World) (h : Src g b len cap w) :
    Calls Try.prog 86 #[.pointer (some ⟨g, 0, none⟩)] w (DrawnSp w.heap.size g b len cap w) := by
  have hg := h.lt
  have HS := Lib.hid (h.alloc (.cells #[] 25))
  have HV := Lib.hid (RowO.made0 w w.heap.size 25 2 (pc fun _ => (0, 0)) (Nat.le_refl _))
  clear h
  go_enter Try.func86, Try.ntmps86
  go_wp2_with fail
  refine (n_any g b len cap 6 _ HS.out (by omega)).mono ?_
  rintro e w1 ⟨q, rfl, hq0, hq1, hs, hb⟩
  obtain ⟨q, rfl⟩ : ∃ k : Nat, q = (k : Int) := ⟨q.toNat, by omega⟩
  have HB1 := Lib.hid (((But.refl g w).alloc _).trans hb)
  have HV1 := Lib.hid (butRowS HV.out hb hg)
  have HS1 := Lib.hid hs
  have hq5 : q ≤ 5 := by omega
  clear hs hb HS HV hq0 hq1
  go_wp2_with fail
  go_loopw [3, 4] (fun v i wr => ∃ (n k : Nat) (f : Nat → Int × Int), n + k ≤ 5 ∧ i = .int .i64 k ∧ Hid (RowS wr w.heap.size v n f) ∧ Hid (Src g b len cap wr) ∧ Hid (But g w wr)) (fun _ i _ => (intOf i).toNat)
  case atStart => exact ⟨0, q, _, by omega, rfl, HV1, HS1, HB1⟩
  case round =>
    obtain ⟨n, k, f, hnk, rfl, HV2, HS2, HB2⟩ := hrel
    clear HV1 HS1 HB1
    by_cases hk : 0 < k
    · have hd : decide ((0 : Int) < (k : Int)) = true := decide_eq_true (by omega)
      have hpos : (0 : Int) < (k : Int) := by omega
      go_wp2_with fail
      refine (span_any g b len cap _ HS2.out).mono ?_
      intro e w2 h
      obtain ⟨x, y, rfl, hs, hb⟩ := drawnX_elim h
      obtain ⟨qa, qc, rfl, hps⟩ := rowO_ps (butRowS HV2.out hb hg)
      have HPS := Lib.hid hps
      have HS3 := Lib.hid hs
      have HB3 := Lib.hid (HB2.out.trans hb)
      have hs3 := HB3.out.size
      clear h hs hb hps HS2 HB2 HV2
      go_wp2_with fail
      refine (put_spec qa n qc f x y _ (by omega) HPS.out).mono ?_
      intro e w3 h
      obtain ⟨v, m, h', rfl, hq, hrow, hb⟩ := resRow_elim h
      have hm := putP_len hq
      have HV3 := Lib.hid (hrow.lower hs3)
      have HS4 := Lib.hid (HS3.out.mono (hb.mono HS3.out.lt))
      have HB4 := Lib.hid (HB3.out.of_below hb)
      have hkm : (k : Int) - 1 = ((k - 1 : Nat) : Int) := by omega
      clear h hq hrow hb HS3 HB3 HPS
      go_wp2
      go_roundw
      case rel => exact ⟨m, k - 1, h', by omega, by go_num, HV3, HS4, HB4⟩
      case measure => simp [intOf]; omega
    · obtain rfl : k = 0 := by omega
      have hn5 : n ≤ 5 := by omega
      go_wp2_with fail
      refine (one_any g b len cap 15 _ HS2.out (by omega)).mono ?_
      rintro e w2 ⟨c, rfl, hs, hb⟩
      have HV3 := Lib.hid (butRowS HV2.out hb hg)
      have HS3 := Lib.hid hs
      have HB3 := Lib.hid (HB2.out.trans hb)
      clear hs hb HV2 HS2 HB2
      cases c with
      | false =>
        go_wp2_with fail
        refine (one_any g b len cap 25 _ HS3.out (by omega)).mono ?_
        rintro e w5 ⟨c, rfl, hs, hb⟩
        have HV5 := Lib.hid (butRowS HV3.out hb hg)
        have HS5 := Lib.hid hs
        have HB5 := Lib.hid (HB3.out.trans hb)
        clear hs hb HV3 HS3 HB3
        cases c with
        | false =>
          go_wp2
          go_ret
          exact ⟨_, _, _, rfl, by omega, HV5.out, HS5.out, HB5.out⟩
        | true =>
          have HV6 := Lib.hid (RowO.nil w5 w.heap.size 25 2 (pc fun _ => (0, 0)))
          clear HV5
          go_wp2_with fail
          go_loopw [3, 5] (fun v i wr => ∃ (n : Nat) (f : Nat → Int × Int), n ≤ 21 ∧ i = .int .i64 n ∧ Hid (RowS wr w.heap.size v n f) ∧ Hid (Src g b len cap wr) ∧ Hid (But g w wr)) (fun _ i _ => 22 - (intOf i).toNat)
          case atStart => exact ⟨0, _, by omega, rfl, HV6, HS5, HB5⟩
          case round =>
            obtain ⟨n, f, hn, rfl, HV7, HS7, HB7⟩ := hrel
            clear HV6 HS5 HB5
            go_wp2_with fail
            refine (n_any g b len cap 2 _ HS7.out (by omega)).mono ?_
            rintro e w6 ⟨q, rfl, hq0, hq1, hs, hb⟩
            have HV8 := Lib.hid (butRowS HV7.out hb hg)
            have HS8 := Lib.hid hs
            have HB8 := Lib.hid (HB7.out.trans hb)
            have hs8 := HB8.out.size
            clear hs hb HV7 HS7 HB7
            by_cases hlt : (n : Int) < 20 + q
            · have hd : decide ((n : Int) < 20 + q) = true := decide_eq_true hlt
              obtain ⟨v9, W9, hr9, hown9, hbel9, hg9, hat9⟩ := app_sp (w6.alloc (.cells #[.int .i64 (2 * (n : Int)), .int .i64 (2 * (n : Int) + 1)] 25)) w.heap.size 39 39 Try.underlying39 (HV8.out.alloc _) (m := 1) 1 (one_row (a := 2 * (n : Int)) (b := 2 * (n : Int) + 1)) (by omega) (by simp; omega)
              have HR9 := Lib.hid hr9
              have HV9 := Lib.hid hown9
              have HB9 := Lib.hid ((HB8.out.alloc (.cells #[.int .i64 (2 * (n : Int)), .int .i64 (2 * (n : Int) + 1)] 25)).grown hg9 (rowO_blk HV8.out))
              have HS9 := Lib.hid ((HS8.out.alloc (.cells #[.int .i64 (2 * (n : Int)), .int .i64 (2 * (n : Int) + 1)] 25)).grown hg9 (fun k hk => Nat.lt_of_lt_of_le hg (rowO_blk HV8.out k hk)))
              clear hr9 hown9 hbel9 hg9 hat9 HV8 HS8 HB8
              go_wp2_with (at_builtin; refine wpList_app rfl (.tmp 33) (.tmp 40) 39 rfl rfl rfl HR9.out ?_)
              go_roundw
              case rel => exact ⟨n + 1, _, by omega, by go_num, HV9, HS9, HB9⟩
              case measure => simp [intOf]; omega
            · have hd : decide ((n : Int) < 20 + q) = false := decide_eq_false hlt
              go_wp2
              go_ret
              exact ⟨_, _, _, rfl, hn, HV8.out, HS8.out, HB8.out⟩
      | true =>
        go_wp2_with fail
        refine (span_any g b len cap _ HS3.out).mono ?_
        intro e w3 h
        obtain ⟨x, y, rfl, hs, hb⟩ := drawnX_elim h
        have hs3 := (HB3.out.trans hb).size
        obtain ⟨v4, W4, hr4, hown4, hbel4, hg4, hat4⟩ := app_sp (w3.alloc (.cells #[.int .i64 x, .int .i64 y] 25)) w.heap.size 39 39 Try.underlying39 ((butRowS HV3.out hb hg).alloc _) (m := 1) 1 (one_row (a := x) (b := y)) (by omega) (by simp; omega)
        have HR4 := Lib.hid hr4
        have HV4 := Lib.hid hown4
        have HB4 := Lib.hid (((HB3.out.trans hb).alloc (.cells #[.int .i64 x, .int .i64 y] 25)).grown hg4 (rowO_blk HV3.out))
        have HS4 := Lib.hid ((hs.alloc (.cells #[.int .i64 x, .int .i64 y] 25)).grown hg4 (fun k hk => Nat.lt_of_lt_of_le hg (rowO_blk HV3.out k hk)))
        clear h hs hb HV3 HS3 HB3 hr4 hown4 hbel4 hg4 hat4
        go_wp2_with (first | (at_builtin; refine wpList_app rfl (.tmp 19) (.tmp 22) 39 rfl rfl rfl HR4.out ?_) | fail)
        have HV3 := HV4
        have HS3 := HS4
        have HB3 := HB4
        clear HV4 HS4 HB4 HR4
        go_wp2_with fail
        refine (one_any g b len cap 25 _ HS3.out (by omega)).mono ?_
        rintro e w5 ⟨c, rfl, hs, hb⟩
        have HV5 := Lib.hid (butRowS HV3.out hb hg)
        have HS5 := Lib.hid hs
        have HB5 := Lib.hid (HB3.out.trans hb)
        clear hs hb HV3 HS3 HB3
        cases c with
        | false =>
          go_wp2
          go_ret
          exact ⟨_, _, _, rfl, by omega, HV5.out, HS5.out, HB5.out⟩
        | true =>
          have HV6 := Lib.hid (RowO.nil w5 w.heap.size 25 2 (pc fun _ => (0, 0)))
          clear HV5
          go_wp2_with fail
          go_loopw [3, 5] (fun v i wr => ∃ (n : Nat) (f : Nat → Int × Int), n ≤ 21 ∧ i = .int .i64 n ∧ Hid (RowS wr w.heap.size v n f) ∧ Hid (Src g b len cap wr) ∧ Hid (But g w wr)) (fun _ i _ => 22 - (intOf i).toNat)
          case atStart => exact ⟨0, _, by omega, rfl, HV6, HS5, HB5⟩
          case round =>
            obtain ⟨n, f, hn, rfl, HV7, HS7, HB7⟩ := hrel
            clear HV6 HS5 HB5
            go_wp2_with fail
            refine (n_any g b len cap 2 _ HS7.out (by omega)).mono ?_
            rintro e w6 ⟨q, rfl, hq0, hq1, hs, hb⟩
            have HV8 := Lib.hid (butRowS HV7.out hb hg)
            have HS8 := Lib.hid hs
            have HB8 := Lib.hid (HB7.out.trans hb)
            have hs8 := HB8.out.size
            clear hs hb HV7 HS7 HB7
            by_cases hlt : (n : Int) < 20 + q
            · have hd : decide ((n : Int) < 20 + q) = true := decide_eq_true hlt
              obtain ⟨v9, W9, hr9, hown9, hbel9, hg9, hat9⟩ := app_sp (w6.alloc (.cells #[.int .i64 (2 * (n : Int)), .int .i64 (2 * (n : Int) + 1)] 25)) w.heap.size 39 39 Try.underlying39 (HV8.out.alloc _) (m := 1) 1 (one_row (a := 2 * (n : Int)) (b := 2 * (n : Int) + 1)) (by omega) (by simp; omega)
              have HR9 := Lib.hid hr9
              have HV9 := Lib.hid hown9
              have HB9 := Lib.hid ((HB8.out.alloc (.cells #[.int .i64 (2 * (n : Int)), .int .i64 (2 * (n : Int) + 1)] 25)).grown hg9 (rowO_blk HV8.out))
              have HS9 := Lib.hid ((HS8.out.alloc (.cells #[.int .i64 (2 * (n : Int)), .int .i64 (2 * (n : Int) + 1)] 25)).grown hg9 (fun k hk => Nat.lt_of_lt_of_le hg (rowO_blk HV8.out k hk)))
              clear hr9 hown9 hbel9 hg9 hat9 HV8 HS8 HB8
              go_wp2_with (at_builtin; refine wpList_app rfl (.tmp 33) (.tmp 40) 39 rfl rfl rfl HR9.out ?_)
              go_roundw
              case rel => exact ⟨n + 1, _, by omega, by go_num, HV9, HS9, HB9⟩
              case measure => simp [intOf]; omega
            · have hd : decide ((n : Int) < 20 + q) = false := decide_eq_false hlt
              go_wp2
              go_ret
              exact ⟨_, _, _, rfl, hn, HV8.out, HS8.out, HB8.out⟩
end Go.Proofs.Ytfciojkibklkfaa.SpanC
end
section
namespace Go.Proofs.Ytfciojkibklkfaa.RepC
open Go.RowKit RowC ValC SpanC KeptC DrawC
set_option linter.unusedVariables false
set_option linter.unusedSimpArgs false
def SmallN (L : List D_Node) : Prop := L.length ≤ 6 ∧ ∀ x ∈ L, x.2.length ≤ 5
theorem ARow.but {g : Nat} {w w' : World} {lo : Nat} {v : Value} {L : List D_Node} (h : ARow R_Node w lo 42 v L) (hb : But g w w') (hg : g < lo) : ARow R_Node w' lo 42 v L := by
  obtain ⟨S, h⟩ := h
  exact ⟨S, (h.mv R_Node_ok hb.size fun k hk => hb.block k (h.bnd hk).2 (by have := (h.bnd hk).1; omega)).rise hb.size⟩
theorem ARow.rd {w : World} {lo : Nat} {a : Option Addr} {c n : Nat} {L : List D_Node} (h : ARow R_Node w lo 42 (.slice a n c) L) : RdSl R_Node w w.heap.size L a c := by
  obtain ⟨S, h⟩ := h
  obtain ⟨a', c', e, ho⟩ := h.done R_Node_ok
  cases e
  exact ho.rd R_Node_ok fun k hk => hk.2
theorem app_node2 {w w' : World} {lo : Nat} {v : Value} {L : List D_Node} (h : ARow R_Node w lo 42 v L) (hk : ∀ k, k < w.heap.size → lo ≤ k → w'.heap[k]? = w.heap[k]?) (hs : w.heap.size ≤ w'.heap.size) {st : Int} {M : List D_Span} {a : Option Addr} {c blk : Nat} (hc : Blk w' blk 42 #[.int .i64 st, .slice a M.length c]) (hM : OwSl R_Span w' (Rg w.heap.size w'.heap.size) M a c) (hL : L.length ≤ 4096) :
    ∃ a' c' w2, (Builtin.append_ #[23, 23] 23 #[v, .slice (some ⟨blk, 0, none⟩) 1 1]).run Try.prog w' = .ok (.slice a' (L ++ [(st, M)]).length c') w2 ∧ ARow R_Node w2 lo 42 (.slice a' (L ++ [(st, M)]).length c') (L ++ [(st, M)]) ∧ Below lo w' w2 := by
  obtain ⟨i, hi', hz, hsz, hby⟩ := infoNode
  have hlo := h.base
  obtain ⟨S, h⟩ := h
  have h' := h.mv (w' := w') R_Node_ok hs fun k hk' => hk k (h.bnd hk').2 (h.bnd hk').1
  obtain ⟨v', w2, S', hrun, hA, hg, ho, _⟩ := h'.app (ty := 23) (c := 1) R_Node_ok Try.underlying23 hi' hz hsz hby rfl (by decide) (us := [.int .i64 st, .slice a M.length c]) (fun j u hj => hc.at_ j (by simpa using hj)) (mkow_Node (fun k hk => hk) hM) (fun k hk => hk) hs (by unfold maxLen; omega) (by omega)
  have hA2 : ARow R_Node w2 lo 42 v' (L ++ [(st, M)]) := ⟨S', hA⟩
  obtain ⟨a', c', rfl⟩ := hA2.isSlice
  exact ⟨a', c', w2, hrun, hA2, below_own hg (fun k hk => (h.bnd (ho k hk)).1) (Nat.le_trans hlo hs)⟩
theorem butBelow {g : Nat} {w a b : World} (h : But g w a) (hb : Below w.heap.size a b) : But g w b :=
  ⟨hb.os.trans h.os, hb.tape.trans h.tape, hb.output.trans h.output, Nat.le_trans h.size hb.size, fun k hk hg => (hb.block k hk).trans (h.block k hk hg)⟩
theorem chg_bound {L : List D_Node} {n : Int} {ok : Bool} {chg : D_Node → Int × D_Node} {R : List D_Node} {c : Int} (hc : ∀ x, okN x → (chg x).2.2.length ≤ 5) (hd : chgV L n ok chg = (R, c)) : SmallN R := by
  have hR : R = [] ∨ (R.length ≤ 6 ∧ ∀ x ∈ R, x.2.length ≤ 5) := by
    unfold chgV at hd
    split at hd
    · exact .inl (congrArg Prod.fst hd).symm
    · split at hd
      · exact .inl (congrArg Prod.fst hd).symm
      · rename_i h1 h2
        split at hd
        · exact .inl (congrArg Prod.fst hd).symm
        · split at hd
          · exact .inl (congrArg Prod.fst hd).symm
          · rename_i x hx
            split at hd
            · have hN : NodesR L := nodesB_iff.1 (by cases hq : nodesB L with
                | true => rfl
                | false => rw [hq] at h2; exact absurd rfl h2)
              have e : L.set n.toNat (chg x).2 = R := congrArg Prod.fst hd
              refine .inr ⟨by rw [← e, List.length_set]; exact hN.1.2, fun y hy => ?_⟩
              rw [← e] at hy
              rcases List.mem_or_eq_of_mem_set hy with h | h
              · have := (hN.2 y h).2.1; omega
              · rw [h]; exact hc x (nodesR_at hN hx)
            · exact .inl (congrArg Prod.fst hd).symm
  rcases hR with rfl | h
  · exact ⟨Nat.zero_le _, fun x hx => by simp at hx⟩
  · exact h
theorem putL_len' (M : List D_Span) (x : D_Span) : (putL M x).length = M.length + 1 := by
  unfold putL
  rw [List.length_append, List.length_cons]
  have h := congrArg List.length (List.takeWhile_append_dropWhile (p := fun y : D_Span => decide (y.2 ≤ x.1)) (l := M))
  rw [List.length_append] at h
  omega
theorem put_five {x : D_Span} {now : Int} : ∀ d, okN d → (putN x now d).2.2.length ≤ 5 := fun d hd => by
  have h4 := hd.2.1
  unfold putN
  split
  · show d.2.length ≤ 5; omega
  · split
    · show d.2.length ≤ 5; omega
    · split
      · show d.2.length ≤ 5; omega
      · show (putL d.2 _).length ≤ 5; rw [putL_len']; omega
theorem set_five {st : Int} : ∀ d, okN d → (setN st d).2.2.length ≤ 5 := fun d hd => by have := hd.2.1; unfold setN; split <;> simp <;> omega
theorem new_small' (n : Int) : SmallN (newV n) := by
  cases hq : isB n 1 6 with
  | false => rw [newV_no hq]; exact ⟨Nat.zero_le _, fun x hx => by simp at hx⟩
  | true =>
    rw [newV_yes hq]
    have := (isB_iff _ _ _).1 hq
    exact ⟨by rw [List.length_replicate]; omega, fun x hx => by rw [List.eq_of_mem_replicate hx]; exact Nat.zero_le _⟩
def DrawnNd (g : Nat) (b : Option Addr) (len cap : Nat) (w : World) (e : Ending) (w' : World) : Prop := ∃ (a : Option Addr) (c : Nat) (L : List D_Node), e = .returned (.slice a L.length c) ∧ ARow R_Node w' w.heap.size 42 (.slice a L.length c) L ∧ (L.length ≤ 7 ∧ ∀ x ∈ L, x.2.length ≤ 21) ∧ Src g b len cap w' ∧ But g w w'
theorem drawnNd_elim {g : Nat} {b : Option Addr} {len cap : Nat} {w : World} {e : Ending} {w' : World} (h : DrawnNd g b len cap w e w') : ∃ (a : Option Addr) (c : Nat) (L : List D_Node), e = .returned (.slice a L.length c) ∧ ARow R_Node w' w.heap.size 42 (.slice a L.length c) L ∧ (L.length ≤ 7 ∧ ∀ x ∈ L, x.2.length ≤ 21) ∧ Src g b len cap w' ∧ But g w w' := h
set_option maxRecDepth 100000 in
set_option maxHeartbeats 6400000 in
theorem nodes_any (g : Nat) (b : Option Addr) (len cap : Nat) (n now : Int) (w : World) (h : Src g b len cap w) (hnow : 0 ≤ now ∧ now ≤ 10) :
    Calls Try.prog 47 #[.pointer (some ⟨g, 0, none⟩), .int .i64 n, .int .i64 now] w (DrawnNd g b len cap w) := by
  have hg := h.lt
  have HS := Lib.hid h
  obtain ⟨hn0, hn1⟩ := hnow
  clear h
  go_enter Try.func47, Try.ntmps47
  go_wp2_with fail
  refine (new_specA n w).mono ?_
  intro e w1 h
  obtain ⟨v0, rfl, hA, hb⟩ := newA_elim h
  have HV1 := Lib.hid hA
  have HS1 := Lib.hid (HS.out.mono (hb.mono (by omega)))
  have HB1 := Lib.hid ((But.refl g w).of_below hb)
  have hsm := new_small' n
  obtain ⟨L0, hL0⟩ : ∃ L, newV n = L := ⟨_, rfl⟩
  rw [hL0] at HV1 hsm
  have HSM1 := Lib.hid hsm
  clear h hA hb HS hL0 hsm
  go_wp2_with fail
  refine (n_any g b len cap 5 _ HS1.out (by omega)).mono ?_
  rintro e w2 ⟨x, rfl, px, qx, hs, hb⟩
  have HB2 := Lib.hid (HB1.out.trans hb)
  have HV2 := Lib.hid (HV1.out.but hb hg)
  have HS2 := Lib.hid hs
  clear hs hb HS1 HB1 HV1
  obtain ⟨k0, rfl⟩ : ∃ k0 : Nat, x = k0 := ⟨x.toNat, by omega⟩
  have hk0 : k0 ≤ 5 := by omega
  go_wp2
  go_loopw [8, 7] (fun s v wr => ∃ (k : Nat) (L : List D_Node), s = .int .i64 k ∧ k ≤ 5 ∧ Hid (ARow R_Node wr w.heap.size 42 v L) ∧ Hid (SmallN L) ∧ Hid (Src g b len cap wr) ∧ Hid (But g w wr)) (fun s _ _ => (intOf s).toNat)
  case atStart => exact ⟨k0, L0, rfl, hk0, HV2, HSM1, HS2, HB2⟩
  case round =>
    obtain ⟨k, L, rfl, hk, HV, HSM, HS, HB⟩ := hrel
    clear px qx hk0
    obtain ⟨va, vc, rfl⟩ := HV.out.isSlice
    have hL6 : L.length ≤ 6 := HSM.out.1
    by_cases hgo : 0 < k ∧ 0 < L.length
    · obtain ⟨hg1, hg2⟩ := hgo
      have hd1 : decide ((0 : Int) < (k : Int)) = true := decide_eq_true (by omega)
      have hd2 : decide ((0 : Int) < (L.length : Int)) = true := decide_eq_true (by omega)
      have hwk : IntKind.i64.wrap ((k : Int) - 1) = ((k - 1 : Nat) : Int) := by rw [show (k : Int) - 1 = ((k - 1 : Nat) : Int) by omega]; exact IntWalk.i64_in _ (by omega)
      have hw1 : IntKind.i64.wrap (now + 1) = now + 1 := IntWalk.i64_in _ (by omega)
      go_wp2_with fail
      refine (n_any g b len cap (L.length : Int) _ HS.out (by omega)).mono ?_
      rintro e w3 ⟨x1, rfl, px1, qx1, hs, hb⟩
      have HB3 := Lib.hid (HB.out.trans hb)
      have HV3 := Lib.hid (HV.out.but hb hg)
      have HS3 := Lib.hid hs
      clear hs hb HS HB HV
      go_wp2_with fail
      refine (n_any g b len cap 12 _ HS3.out (by omega)).mono ?_
      rintro e w4 ⟨x2, rfl, px2, qx2, hs, hb⟩
      have HB4 := Lib.hid (HB3.out.trans hb)
      have HV4 := Lib.hid (HV3.out.but hb hg)
      have HS4 := Lib.hid hs
      clear hs hb HS3 HB3 HV3
      have hw2 : IntKind.i64.wrap (now + 1 + x2) = now + 1 + x2 := IntWalk.i64_in _ (by omega)
      have hw3 : IntKind.i64.wrap (now + 1 + x2 + 1) = now + 1 + x2 + 1 := IntWalk.i64_in _ (by omega)
      go_wp2_with fail
      refine (n_any g b len cap 4 _ HS4.out (by omega)).mono ?_
      rintro e w5 ⟨x3, rfl, px3, qx3, hs, hb⟩
      have HB5 := Lib.hid (HB4.out.trans hb)
      have HV5 := Lib.hid (HV4.out.but hb hg)
      have HS5 := Lib.hid hs
      clear hs hb HS4 HB4 HV4
      have hw4 : IntKind.i64.wrap (now + 1 + x2 + 1 + x3) = now + 1 + x2 + 1 + x3 := IntWalk.i64_in _ (by omega)
      go_wp2_with fail
      refine (put_specA HV5.out.rd).mono ?_
      intro e w6 h
      obtain ⟨⟨R1, c1⟩, hd⟩ : ∃ d, chgV L x1 (spB (now + 1 + x2) (now + 1 + x2 + 1 + x3) && isB now 0 999900) (putN (now + 1 + x2, now + 1 + x2 + 1 + x3) now) = d := ⟨_, rfl⟩
      have HSR := Lib.hid (chg_bound put_five hd)
      rw [hd] at h
      obtain ⟨v1, rfl, hA, hb⟩ := chgA_elim h
      have hz5 := HB5.out.size
      have HVR := Lib.hid (hA.lower (lo' := w.heap.size) hz5)
      have HS6 := Lib.hid (HS5.out.mono (hb.mono (by omega)))
      have HB6 := Lib.hid (HB5.out.of_below hb)
      have HV6 := Lib.hid (HV5.out.call R_Node_ok hb)
      obtain ⟨a1, q1, rfl⟩ := HVR.out.isSlice
      have hz6 := HB6.out.size
      clear h hA hb hd HS5 HB5 HV5
      obtain ⟨w7, hw7⟩ : ∃ w, w = w6.alloc (.cells #[.slice a1 R1.length q1, .int .i64 c1] 29) := ⟨_, rfl⟩
      have HY := Lib.hid (show Blk w7 w6.heap.size 29 #[.slice a1 R1.length q1, .int .i64 c1] from by rw [hw7]; exact Blk.new _ _ _)
      have HQ7 := Lib.hid (show But g w6 w7 from by rw [hw7]; exact (But.refl g w6).alloc _)
      have HS7 := Lib.hid (show Src g b len cap w7 from by rw [hw7]; exact HS6.out.alloc _)
      have hyg : w6.heap.size ≠ g := by omega
      clear HS6
      go_wp2_with fail
      rw [← hw7]
      refine (one_any g b len cap 4 _ HS7.out (by omega)).mono ?_
      rintro e w8 ⟨zb, rfl, hs, hb⟩
      have HQ8 := Lib.hid (HQ7.out.trans hb)
      have HY8 := Lib.hid (blkBut HY.out hb hyg)
      have HS8 := Lib.hid hs
      clear hs hb hw7 HQ7 HS7 HY
      cases zb with
      | false =>
        have y0 := HY8.out.at_ 0 rfl
        have y1 := HY8.out.at_ 1 rfl
        have HBF := Lib.hid (HB6.out.trans HQ8.out)
        by_cases hc : c1 = 0
        · have HVF := Lib.hid (HVR.out.but HQ8.out hg)
          have hq : (c1 == 0) = true := beq_iff_eq.2 hc
          clear hc
          go_wp2
          go_roundw
          case rel => exact ⟨k - 1, R1, rfl, by omega, HVF, HSR, HS8, HBF⟩
          case measure => simp [intOf]; omega
        · have HVF := Lib.hid (HV6.out.but HQ8.out hg)
          have hq : (c1 == 0) = false := beq_eq_false_iff_ne.2 hc
          clear hc
          go_wp2
          go_roundw
          case rel => exact ⟨k - 1, L, rfl, by omega, HVF, HSM, HS8, HBF⟩
          case measure => simp [intOf]; omega
      | true =>
        go_wp2_with fail
        refine (n_any g b len cap 3 _ HS8.out (by omega)).mono ?_
        rintro e w9 ⟨x4, rfl, p4, q4, hs, hb⟩
        have HQ9 := Lib.hid (HQ8.out.trans hb)
        have HY9 := Lib.hid (blkBut HY8.out hb hyg)
        have HV9 := Lib.hid (HV6.out.but HQ9.out hg)
        have HS9 := Lib.hid hs
        have hw9 : IntKind.i64.wrap (1 + x4) = 1 + x4 := IntWalk.i64_in _ (by omega)
        clear hs hb HQ8 HS8 HY8 HVR HSR
        go_wp2_with fail
        refine (set_specA HV9.out.rd).mono ?_
        intro e w10 h
        obtain ⟨⟨R2, c2⟩, hd⟩ : ∃ d, chgV L x1 (isB (1 + x4) 1 3) (setN (1 + x4)) = d := ⟨_, rfl⟩
        have HSR := Lib.hid (chg_bound set_five hd)
        rw [hd] at h
        obtain ⟨v2, rfl, hA, hb⟩ := chgA_elim h
        have hz9 := HQ9.out.size
        have hy9 := HY9.out.lt
        obtain ⟨a2, q2, rfl⟩ := hA.isSlice
        have HY10 := Lib.hid (HY9.out.call hb)
        obtain ⟨w11, hw11⟩ : ∃ x, x = (w10.setCell ⟨w6.heap.size, 0, none⟩ (.slice a2 R2.length q2)).setCell ⟨w6.heap.size, 1, none⟩ (.int .i64 c2) := ⟨_, rfl⟩
        have HVR2 := Lib.hid (show ARow R_Node w11 w.heap.size 42 (.slice a2 R2.length q2) R2 from by rw [hw11]; exact ((hA.far (b := w6.heap.size) hy9 0 _).far (b := w6.heap.size) hy9 1 _).lower (by omega))
        have HQ11 := Lib.hid (show But g w6 w11 from by rw [hw11]; exact butSet (butSet (HQ9.out.of_below hb) (p := ⟨w6.heap.size, 0, none⟩) (Nat.le_refl _) _) (p := ⟨w6.heap.size, 1, none⟩) (Nat.le_refl _) _)
        have HS11 := Lib.hid (show Src g b len cap w11 from by rw [hw11]; exact srcSet (srcSet (HS9.out.mono (hb.mono (by omega))) (p := ⟨w6.heap.size, 0, none⟩) (show g < w6.heap.size by omega) _) (p := ⟨w6.heap.size, 1, none⟩) (show g < w6.heap.size by omega) _)
        have HBF := Lib.hid (HB6.out.trans HQ11.out)
        have y0 := HY10.out.at_ 0 rfl
        have y1 := HY10.out.at_ 1 rfl
        have s0 := HY10.out.soft 0
        have s1 := HY10.out.soft 1
        have HVL := Lib.hid (HV6.out.but HQ11.out hg)
        rw [hw11] at HVR2 HS11 HBF HVL
        clear h hA hb hd hw11 HQ9 HS9 HY9 HQ11
        by_cases hc : c2 = 0
        · have hq : (c2 == 0) = true := beq_iff_eq.2 hc
          clear hc
          go_wp2
          go_roundw
          case rel => exact ⟨k - 1, R2, rfl, by omega, HVR2, HSR, HS11, HBF⟩
          case measure => simp [intOf]; omega
        · have hq : (c2 == 0) = false := beq_eq_false_iff_ne.2 hc
          clear hc
          go_wp2
          go_roundw
          case rel => exact ⟨k - 1, L, rfl, by omega, HVL, HSM, HS11, HBF⟩
          case measure => simp [intOf]; omega
    · have HOUT := Lib.hid (show L.length ≤ 7 ∧ ∀ x ∈ L, x.2.length ≤ 21 from ⟨by omega, fun x hx => by have := HSM.out.2 x hx; omega⟩)
      have hd : k = 0 ∨ (0 < k ∧ L.length = 0) := by omega
      rcases hd with hd | ⟨hd, hd2⟩
      · have hd1 : decide ((0 : Int) < (k : Int)) = false := decide_eq_false (by omega)
        have hd1n : decide (0 < k) = false := decide_eq_false (by omega)
        have hd1m : ¬ 0 < k := by omega
        clear hd hgo
        go_wp2_with fail
        refine (one_any g b len cap 20 _ HS.out (by omega)).mono ?_
        rintro e w3 ⟨zb, rfl, hs, hb⟩
        have HB3 := Lib.hid (HB.out.trans hb)
        have HV3 := Lib.hid (HV.out.but hb hg)
        have HS3 := Lib.hid hs
        clear hs hb HS HB HV
        cases zb with
        | false =>
          go_wp2
          go_ret
          exact ⟨va, vc, L, rfl, HV3.out, HOUT.out, HS3.out, HB3.out⟩
        | true =>
          go_wp2_with fail
          refine (n_any g b len cap 3 _ HS3.out (by omega)).mono ?_
          rintro e w4 ⟨x5, rfl, px5, qx5, hs, hb⟩
          have HB4 := Lib.hid (HB3.out.trans hb)
          have HV4 := Lib.hid (HV3.out.but hb hg)
          have HS4 := Lib.hid hs
          clear hs hb HS3 HB3 HV3
          by_cases h0 : x5 = 0
          · have hq : (x5 == 0) = true := beq_iff_eq.2 h0
            clear h0
            go_wp2_with fail
            refine (n_any g b len cap 5 _ HS4.out (by omega)).mono ?_
            rintro e w5 ⟨x6, rfl, px6, qx6, hs, hb⟩
            have HB5 := Lib.hid (HB4.out.trans hb)
            have HV5 := Lib.hid (HV4.out.but hb hg)
            have HS5 := Lib.hid hs
            clear hs hb HS4 HB4 HV4
            obtain ⟨w6, hw6⟩ : ∃ w, w = w5.alloc (.cells #[.int .i64 x6, .slice none 0 0] 42) := ⟨_, rfl⟩
            have hb6 : Below w5.heap.size w5 w6 := by rw [hw6]; exact (Below.refl _ _).alloc (Nat.le_refl _) _
            have X6 : Blk w6 w5.heap.size 42 #[.int .i64 x6, .slice none ([] : List D_Span).length 0] := by rw [hw6]; exact Blk.new _ _ _
            obtain ⟨a7, c7, w7, hrun, hrow, hb7⟩ := app_node2 HV5.out (fun k hk _ => hb6.block k hk) hb6.size X6 ⟨Nat.le_refl _, by unfold maxLen; omega, fun h => absurd h (Nat.lt_irrefl _)⟩ (by omega)
            have HRun := Lib.hid hrun
            rw [hw6] at HRun
            have HR := Lib.hid hrow
            have hz5 := HB5.out.size
            have hbb : Below w.heap.size w5 w7 := (hb6.mono hz5).trans hb7
            have HSF := Lib.hid (HS5.out.mono (hbb.mono (by omega)))
            have HBF := Lib.hid (butBelow HB5.out hbb)
            clear hrun hrow hb6 X6 hb7 hbb hw6
            go_wp2_with (at_builtin; refine wpList_app rfl (.tmp 64) (.tmp 68) 23 rfl rfl rfl HRun.out ?_)
            go_ret
            exact ⟨a7, c7, L ++ [(x6, [])], by simp, HR.out, ⟨by simp; omega, fun x hx => by
              rcases List.mem_append.1 hx with h | h
              · exact HOUT.out.2 x h
              · simp at h; subst h; exact Nat.zero_le _⟩, HSF.out, HBF.out⟩
          · have hq : (x5 == 0) = false := beq_eq_false_iff_ne.2 h0
            by_cases h1 : x5 = 1
            · have hq1 : (x5 == 1) = true := beq_iff_eq.2 h1
              clear h0 h1
              go_wp2_with fail
              refine (spans_any g b len cap _ HS4.out).mono ?_
              intro e w5 h
              obtain ⟨v5, n5, f5, rfl, hn5, hr5, hs, hb⟩ := drawnSp_elim h
              have hx5 := rowS_x hr5
              obtain ⟨M5, hM5⟩ : ∃ M, (List.range n5).map f5 = M := ⟨_, rfl⟩
              have hl5 : M5.length ≤ 21 := by rw [← hM5]; simpa using hn5
              rw [hM5] at hx5
              obtain ⟨a5, c5, rfl, hO5⟩ := hx5.sl R_Span_ok flat_Span
              have HB5 := Lib.hid (HB4.out.trans hb)
              have HS5 := Lib.hid hs
              have hz4 := HB4.out.size
              have hz45 := hb.size
              obtain ⟨w6, hw6⟩ : ∃ w, w = w5.alloc (.cells #[.int .i64 1, .slice a5 M5.length c5] 42) := ⟨_, rfl⟩
              have hb6 : Below w5.heap.size w5 w6 := by rw [hw6]; exact (Below.refl _ _).alloc (Nat.le_refl _) _
              have X6 : Blk w6 w5.heap.size 42 #[.int .i64 1, .slice a5 M5.length c5] := by rw [hw6]; exact Blk.new _ _ _
              have hz56 := hb6.size
              obtain ⟨a7, c7, w7, hrun, hrow, hb7⟩ := app_node2 HV4.out (fun k hk hlo => (hb6.block k (by omega)).trans (hb.block k hk (by omega))) (by omega) X6 ((hO5.keep R_Span_ok fun q hq => hb6.block q (hx5.blk q hq).2).more fun q hq => ⟨(hx5.blk q hq).1, by have := (hx5.blk q hq).2; omega⟩) (by omega)
              have HRun := Lib.hid hrun
              rw [hw6] at HRun
              have HR := Lib.hid hrow
              have hz5 := HB5.out.size
              have hbb : Below w.heap.size w5 w7 := (hb6.mono hz5).trans hb7
              have HSF := Lib.hid (HS5.out.mono (hbb.mono (by omega)))
              have HBF := Lib.hid (butBelow HB5.out hbb)
              clear h hs hb hrun hrow hb6 X6 hb7 hbb hw6 hx5 hr5 hO5 hM5 HV4 HB4 HS4
              go_wp2_with (at_builtin; refine wpList_app rfl (.tmp 72) (.tmp 76) 23 rfl rfl rfl HRun.out ?_)
              go_ret
              exact ⟨a7, c7, L ++ [(1, M5)], by simp, HR.out, ⟨by simp; omega, fun x hx => by
                rcases List.mem_append.1 hx with h | h
                · exact HOUT.out.2 x h
                · simp at h; subst h; exact hl5⟩, HSF.out, HBF.out⟩
            · have hq1 : (x5 == 1) = false := beq_eq_false_iff_ne.2 h1
              clear h0 h1
              go_wp2
              go_ret
              exact ⟨none, 0, [], rfl, ARow.nil HB4.out.size, ⟨Nat.zero_le _, fun x hx => by simp at hx⟩, HS4.out, HB4.out⟩
      · have hd1 : decide ((0 : Int) < (k : Int)) = true := decide_eq_true (by omega)
        have hd3 : decide ((0 : Int) < (L.length : Int)) = false := decide_eq_false (by omega)
        have hd3n : decide (0 < L.length) = false := decide_eq_false (by omega)
        have hd3m : ¬ 0 < L.length := by omega
        have hd1m : 0 < k := by omega
        clear hd hd2 hgo
        go_wp2_with fail
        refine (one_any g b len cap 20 _ HS.out (by omega)).mono ?_
        rintro e w3 ⟨zb, rfl, hs, hb⟩
        have HB3 := Lib.hid (HB.out.trans hb)
        have HV3 := Lib.hid (HV.out.but hb hg)
        have HS3 := Lib.hid hs
        clear hs hb HS HB HV
        cases zb with
        | false =>
          go_wp2
          go_ret
          exact ⟨va, vc, L, rfl, HV3.out, HOUT.out, HS3.out, HB3.out⟩
        | true =>
          go_wp2_with fail
          refine (n_any g b len cap 3 _ HS3.out (by omega)).mono ?_
          rintro e w4 ⟨x5, rfl, px5, qx5, hs, hb⟩
          have HB4 := Lib.hid (HB3.out.trans hb)
          have HV4 := Lib.hid (HV3.out.but hb hg)
          have HS4 := Lib.hid hs
          clear hs hb HS3 HB3 HV3
          by_cases h0 : x5 = 0
          · have hq : (x5 == 0) = true := beq_iff_eq.2 h0
            clear h0
            go_wp2_with fail
            refine (n_any g b len cap 5 _ HS4.out (by omega)).mono ?_
            rintro e w5 ⟨x6, rfl, px6, qx6, hs, hb⟩
            have HB5 := Lib.hid (HB4.out.trans hb)
            have HV5 := Lib.hid (HV4.out.but hb hg)
            have HS5 := Lib.hid hs
            clear hs hb HS4 HB4 HV4
            obtain ⟨w6, hw6⟩ : ∃ w, w = w5.alloc (.cells #[.int .i64 x6, .slice none 0 0] 42) := ⟨_, rfl⟩
            have hb6 : Below w5.heap.size w5 w6 := by rw [hw6]; exact (Below.refl _ _).alloc (Nat.le_refl _) _
            have X6 : Blk w6 w5.heap.size 42 #[.int .i64 x6, .slice none ([] : List D_Span).length 0] := by rw [hw6]; exact Blk.new _ _ _
            obtain ⟨a7, c7, w7, hrun, hrow, hb7⟩ := app_node2 HV5.out (fun k hk _ => hb6.block k hk) hb6.size X6 ⟨Nat.le_refl _, by unfold maxLen; omega, fun h => absurd h (Nat.lt_irrefl _)⟩ (by omega)
            have HRun := Lib.hid hrun
            rw [hw6] at HRun
            have HR := Lib.hid hrow
            have hz5 := HB5.out.size
            have hbb : Below w.heap.size w5 w7 := (hb6.mono hz5).trans hb7
            have HSF := Lib.hid (HS5.out.mono (hbb.mono (by omega)))
            have HBF := Lib.hid (butBelow HB5.out hbb)
            clear hrun hrow hb6 X6 hb7 hbb hw6
            go_wp2_with (at_builtin; refine wpList_app rfl (.tmp 64) (.tmp 68) 23 rfl rfl rfl HRun.out ?_)
            go_ret
            exact ⟨a7, c7, L ++ [(x6, [])], by simp, HR.out, ⟨by simp; omega, fun x hx => by
              rcases List.mem_append.1 hx with h | h
              · exact HOUT.out.2 x h
              · simp at h; subst h; exact Nat.zero_le _⟩, HSF.out, HBF.out⟩
          · have hq : (x5 == 0) = false := beq_eq_false_iff_ne.2 h0
            by_cases h1 : x5 = 1
            · have hq1 : (x5 == 1) = true := beq_iff_eq.2 h1
              clear h0 h1
              go_wp2_with fail
              refine (spans_any g b len cap _ HS4.out).mono ?_
              intro e w5 h
              obtain ⟨v5, n5, f5, rfl, hn5, hr5, hs, hb⟩ := drawnSp_elim h
              have hx5 := rowS_x hr5
              obtain ⟨M5, hM5⟩ : ∃ M, (List.range n5).map f5 = M := ⟨_, rfl⟩
              have hl5 : M5.length ≤ 21 := by rw [← hM5]; simpa using hn5
              rw [hM5] at hx5
              obtain ⟨a5, c5, rfl, hO5⟩ := hx5.sl R_Span_ok flat_Span
              have HB5 := Lib.hid (HB4.out.trans hb)
              have HS5 := Lib.hid hs
              have hz4 := HB4.out.size
              have hz45 := hb.size
              obtain ⟨w6, hw6⟩ : ∃ w, w = w5.alloc (.cells #[.int .i64 1, .slice a5 M5.length c5] 42) := ⟨_, rfl⟩
              have hb6 : Below w5.heap.size w5 w6 := by rw [hw6]; exact (Below.refl _ _).alloc (Nat.le_refl _) _
              have X6 : Blk w6 w5.heap.size 42 #[.int .i64 1, .slice a5 M5.length c5] := by rw [hw6]; exact Blk.new _ _ _
              have hz56 := hb6.size
              obtain ⟨a7, c7, w7, hrun, hrow, hb7⟩ := app_node2 HV4.out (fun k hk hlo => (hb6.block k (by omega)).trans (hb.block k hk (by omega))) (by omega) X6 ((hO5.keep R_Span_ok fun q hq => hb6.block q (hx5.blk q hq).2).more fun q hq => ⟨(hx5.blk q hq).1, by have := (hx5.blk q hq).2; omega⟩) (by omega)
              have HRun := Lib.hid hrun
              rw [hw6] at HRun
              have HR := Lib.hid hrow
              have hz5 := HB5.out.size
              have hbb : Below w.heap.size w5 w7 := (hb6.mono hz5).trans hb7
              have HSF := Lib.hid (HS5.out.mono (hbb.mono (by omega)))
              have HBF := Lib.hid (butBelow HB5.out hbb)
              clear h hs hb hrun hrow hb6 X6 hb7 hbb hw6 hx5 hr5 hO5 hM5 HV4 HB4 HS4
              go_wp2_with (at_builtin; refine wpList_app rfl (.tmp 72) (.tmp 76) 23 rfl rfl rfl HRun.out ?_)
              go_ret
              exact ⟨a7, c7, L ++ [(1, M5)], by simp, HR.out, ⟨by simp; omega, fun x hx => by
                rcases List.mem_append.1 hx with h | h
                · exact HOUT.out.2 x h
                · simp at h; subst h; exact hl5⟩, HSF.out, HBF.out⟩
            · have hq1 : (x5 == 1) = false := beq_eq_false_iff_ne.2 h1
              clear h0 h1
              go_wp2
              go_ret
              exact ⟨none, 0, [], rfl, ARow.nil HB4.out.size, ⟨Nat.zero_le _, fun x hx => by simp at hx⟩, HS4.out, HB4.out⟩
end Go.Proofs.Ytfciojkibklkfaa.RepC
end
