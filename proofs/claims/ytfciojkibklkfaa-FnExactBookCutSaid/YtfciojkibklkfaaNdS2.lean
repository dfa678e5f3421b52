/- NodeSet in the model: a contract. -/
import Derived.Test.YtfciojkibklkfaaNdZ
import Derived.Test.YtfciojkibklkfaaNdL
import Derived.Test.YtfciojkibklkfaaNdS
namespace Go.Proofs.Ytfciojkibklkfaa.RepC
open Go.RowKit RowC ValC SpanC KeptC
set_option linter.unusedVariables false
set_option linter.unusedSimpArgs false

theorem ill_spec (c : Int) (W : World) : Calls Try.prog 55 #[.int .i64 c] W fun e w' => e = .returned (.agg #[.slice none 0 0, .int .i64 c]) ∧ Below W.heap.size W w' := by
  have HX := Lib.hid (Blk.new W 29 #[.slice none 0 0, .int .i64 0])
  go_enter Try.func55, Try.ntmps55
  go_wp2
  refine bodyPost_ret (v := .agg #[.slice none 0 0, .int .i64 c]) (by simp [results, Try.results55, go_sem, *]) rfl ⟨rfl, ?_⟩
  first | exact (Below.refl _ _).alloc (Nat.le_refl _) _ | exact ((Below.refl _ _).alloc (Nat.le_refl _) _).setCell (by first | omega | simp) _
theorem place_spec {L : List D_Node} (a : Option Addr) (cap : Nat) (n : Int) (w : World) (hL : L.length ≤ 4096) :
    Calls Try.prog 58 #[.slice a L.length cap, .int .i64 n] w fun e w' => e = .returned (.bool (isB n 0 ((L.length : Int) - 1))) ∧ w = w' := by
  by_cases h1 : 0 ≤ n
  · by_cases h2 : n < L.length
    · have hb : isB n 0 ((L.length : Int) - 1) = true := (isB_iff _ _ _).2 ⟨h1, by omega⟩
      rw [hb]; clear hb
      go_enter Try.func58, Try.ntmps58
      go_wp2
      go_ret
      exact ⟨rfl, rfl⟩
    · have hb : isB n 0 ((L.length : Int) - 1) = false := by
        cases hq : isB n 0 ((L.length : Int) - 1) with
        | false => rfl
        | true => have := (isB_iff _ _ _).1 hq; omega
      rw [hb]; clear hb
      have h2' : decide (n < (L.length : Int)) = false := by simpa using h2
      go_enter Try.func58, Try.ntmps58
      go_wp2
      go_ret
      exact ⟨rfl, rfl⟩
  · have hb : isB n 0 ((L.length : Int) - 1) = false := by
      cases hq : isB n 0 ((L.length : Int) - 1) with
      | false => rfl
      | true => have := (isB_iff _ _ _).1 hq; omega
    rw [hb]; clear hb
    have h1' : decide (0 ≤ n) = false := by simpa using h1
    go_enter Try.func58, Try.ntmps58
    go_wp2
    go_ret
    exact ⟨rfl, rfl⟩
set_option maxRecDepth 100000 in
set_option maxHeartbeats 3200000 in
theorem set_spec {L : List D_Node} {n st : Int} {a : Option Addr} {cap : Nat} {W : World} (h : RdSl R_Node W W.heap.size L a cap) :
    Calls Try.prog 17 #[.slice a L.length cap, .int .i64 n, .int .i64 st] W (NewV R_NodesOut (chgV L n (isB st 1 3) (setN st)) W) := by
  obtain ⟨w0, hw0⟩ : ∃ w, w = W.alloc (.cells #[.slice none 0 0, .int .i64 0] 29) := ⟨_, rfl⟩
  have hb0 : Below W.heap.size W w0 := by rw [hw0]; exact (Below.refl _ _).alloc (Nat.le_refl _) _
  have X0 := Lib.hid (show Blk w0 W.heap.size 29 #[.slice none 0 0, .int .i64 0] from by rw [hw0]; exact Blk.new _ _ _)
  have H0 := Lib.hid (mv_rd R_Node_ok h hb0)
  have HB0 := Lib.hid hb0
  have hnn := nd_len h
  have hz0 := hb0.size
  have hs := nodes_spec H0.out
  obtain ⟨z, hz⟩ : ∃ z, nodesB L = z := ⟨_, rfl⟩
  rw [hz] at hs
  have HZ := Lib.hid hz
  clear h hz hb0
  by_cases h400 : 400 < L.length
  · have HE := Lib.hid (chgV_size (n := n) (ok := isB st 1 3) (chg := setN st) h400)
    have hd : decide ((400 : Int) < (L.length : Int)) = true := decide_eq_true (by omega)
    go_enter Try.func17, Try.ntmps17
    go_wp2_with fail
    rw [← hw0]
    clear hw0
    refine (ill_spec 2 _).mono ?_
    rintro e w9 ⟨rfl, hb9⟩
    have X9 := Lib.hid (X0.out.call hb9)
    have HB9 := Lib.hid (HB0.out.trans (hb9.mono HB0.out.size))
    have q0 := X9.out.at_ 0 rfl
    have q1 := X9.out.at_ 1 rfl
    have f0 := X9.out.soft 0
    have f1 := X9.out.soft 1
    clear hb9
    go_wp2
    first | rw [HE.out] | rw [HZS.out, HE.out]
    refine bodyPost_ret (v := .agg #[.slice none 0 0, .int .i64 2]) (by simp [results, Try.results17, go_sem, *]) rfl (out_ill ?_)
    exact (HB9.out.setCell (p := ⟨W.heap.size, 0, none⟩) (show W.heap.size ≤ W.heap.size by omega) _).setCell (p := ⟨W.heap.size, 1, none⟩) (show W.heap.size ≤ W.heap.size by omega) _
  have hd : decide ((400 : Int) < (L.length : Int)) = false := decide_eq_false (by omega)
  go_enter Try.func17, Try.ntmps17
  go_wp2_with fail
  rw [← hw0]
  clear hw0
  refine hs.mono ?_
  intro e w1 h
  obtain ⟨rfl, hb⟩ := isB_elim h
  have XR := Lib.hid (X0.out.call hb)
  have H1 := Lib.hid (mv_rd R_Node_ok H0.out hb)
  have HB1 := Lib.hid (HB0.out.trans (hb.mono hz0))
  clear h hb hs
  cases z with
  | false =>
    have HE := Lib.hid (chgV_form (n := n) (ok := isB st 1 3) (chg := setN st) h400 (by rw [HZ.out]; rfl))
    go_wp2_with fail
    refine (ill_spec 1 _).mono ?_
    rintro e w9 ⟨rfl, hb9⟩
    have X9 := Lib.hid (XR.out.call hb9)
    have HB9 := Lib.hid (HB1.out.trans (hb9.mono HB1.out.size))
    have q0 := X9.out.at_ 0 rfl
    have q1 := X9.out.at_ 1 rfl
    have f0 := X9.out.soft 0
    have f1 := X9.out.soft 1
    clear hb9
    go_wp2
    first | rw [HE.out] | rw [HZS.out, HE.out]
    refine bodyPost_ret (v := .agg #[.slice none 0 0, .int .i64 1]) (by simp [results, Try.results17, go_sem, *]) rfl (out_ill ?_)
    exact (HB9.out.setCell (p := ⟨W.heap.size, 0, none⟩) (show W.heap.size ≤ W.heap.size by omega) _).setCell (p := ⟨W.heap.size, 1, none⟩) (show W.heap.size ≤ W.heap.size by omega) _
  | true =>
  obtain ⟨zs, hzs⟩ : ∃ zs, isB st 1 3 = zs := ⟨_, rfl⟩
  have hst := fun W => state_spec st W
  rw [hzs] at hst
  have HZS := Lib.hid hzs
  rw [hzs]
  clear hzs
  cases zs with
  | false =>
    have HE := Lib.hid (chgV_form (n := n) (ok := false) (chg := setN st) h400 (by rw [HZ.out]; rfl))
    go_wp2_with (first | (go_at_call 66; refine (hst _).mono ?_; rintro e w' ⟨rfl, rfl⟩) | fail)
    refine (ill_spec 1 _).mono ?_
    rintro e w9 ⟨rfl, hb9⟩
    have X9 := Lib.hid (XR.out.call hb9)
    have HB9 := Lib.hid (HB1.out.trans (hb9.mono HB1.out.size))
    have q0 := X9.out.at_ 0 rfl
    have q1 := X9.out.at_ 1 rfl
    have f0 := X9.out.soft 0
    have f1 := X9.out.soft 1
    clear hb9
    go_wp2
    first | rw [HE.out] | rw [HZS.out, HE.out]
    refine bodyPost_ret (v := .agg #[.slice none 0 0, .int .i64 1]) (by simp [results, Try.results17, go_sem, *]) rfl (out_ill ?_)
    exact (HB9.out.setCell (p := ⟨W.heap.size, 0, none⟩) (show W.heap.size ≤ W.heap.size by omega) _).setCell (p := ⟨W.heap.size, 1, none⟩) (show W.heap.size ≤ W.heap.size by omega) _
  | true =>
  have HZO := Lib.hid (show (nodesB L && true) = true from by rw [HZ.out]; rfl)
  have hN := nodesB_iff.1 HZ.out
  have hsm := nodesR_small hN
  have hL1 := hN.1.1
  have hL6 := hN.1.2
  have HN := Lib.hid hN
  clear hN
  obtain ⟨y, hy⟩ : ∃ y, isB n 0 ((L.length : Int) - 1) = y := ⟨_, rfl⟩
  have hi := fun W => place_spec (L := L) a cap n W hsm.1
  rw [hy] at hi
  have HY := Lib.hid hy
  clear hy
  cases y with
  | false =>
    have HE := Lib.hid (chgV_none (chg := setN st) h400 HZO.out HY.out)
    go_wp2_with (first | (go_at_call 66; refine (hst _).mono ?_; rintro e w' ⟨rfl, rfl⟩) | (go_at_call 58; refine (hi _).mono ?_; rintro e w' ⟨rfl, rfl⟩) | fail)
    refine (ill_spec 6 _).mono ?_
    rintro e w9 ⟨rfl, hb9⟩
    have X9 := Lib.hid (XR.out.call hb9)
    have HB9 := Lib.hid (HB1.out.trans (hb9.mono HB1.out.size))
    have q0 := X9.out.at_ 0 rfl
    have q1 := X9.out.at_ 1 rfl
    have f0 := X9.out.soft 0
    have f1 := X9.out.soft 1
    clear hb9
    go_wp2
    first | rw [HE.out] | rw [HZS.out, HE.out]
    refine bodyPost_ret (v := .agg #[.slice none 0 0, .int .i64 6]) (by simp [results, Try.results17, go_sem, *]) rfl (out_ill ?_)
    exact (HB9.out.setCell (p := ⟨W.heap.size, 0, none⟩) (show W.heap.size ≤ W.heap.size by omega) _).setCell (p := ⟨W.heap.size, 1, none⟩) (show W.heap.size ≤ W.heap.size by omega) _
  | true =>
    have hnb := (isB_iff _ _ _).1 HY.out
    obtain ⟨m, rfl⟩ : ∃ m : Nat, n = m := ⟨n.toNat, by omega⟩
    have hm : m < L.length := by omega
    obtain ⟨x, hx⟩ := el_some hm
    obtain ⟨gl, o, us, rfl, hg, hu, hr⟩ := H1.out.at_ hx
    obtain ⟨s, M⟩ := x
    obtain ⟨ba, bc, rfl, hM⟩ := rd_Node hr
    have e0 : w1.cell? ⟨gl, o + m * 2, none⟩ = some (.int .i64 s) := by simpa [size_NodeS] using hu 0 _ rfl
    have hv := chgV_at (chg := setN st) h400 HZO.out hx
    have HX := Lib.hid hx
    have hi0 : (0 : Int) ≤ (m : Int) := Int.natCast_nonneg _
    have hi1 : (m : Int) < (L.length : Int) := by omega
    clear hx hnb hu hr hM
    by_cases hs : s = st
    · rw [setN_same hs, if_neg (show ¬ (10 : Int) = 0 by decide)] at hv
      have HE := Lib.hid hv
      have hq : (s == st) = true := beq_iff_eq.2 hs
      clear hs hv
      go_wp2_with (first | (go_at_call 66; refine (hst _).mono ?_; rintro e w' ⟨rfl, rfl⟩) | (go_at_call 58; refine (hi _).mono ?_; rintro e w' ⟨rfl, rfl⟩) | fail)
      refine (ill_spec 10 _).mono ?_
      rintro e w9 ⟨rfl, hb9⟩
      have X9 := Lib.hid (XR.out.call hb9)
      have HB9 := Lib.hid (HB1.out.trans (hb9.mono HB1.out.size))
      have q0 := X9.out.at_ 0 rfl
      have q1 := X9.out.at_ 1 rfl
      have f0 := X9.out.soft 0
      have f1 := X9.out.soft 1
      clear hb9
      go_wp2
      first | rw [HE.out] | rw [HZS.out, HE.out]
      refine bodyPost_ret (v := .agg #[.slice none 0 0, .int .i64 10]) (by simp [results, Try.results17, go_sem, *]) rfl (out_ill ?_)
      exact (HB9.out.setCell (p := ⟨W.heap.size, 0, none⟩) (show W.heap.size ≤ W.heap.size by omega) _).setCell (p := ⟨W.heap.size, 1, none⟩) (show W.heap.size ≤ W.heap.size by omega) _
    · rw [setN_new hs, if_pos rfl] at hv
      have HV := Lib.hid hv
      have hq : (s == st) = false := beq_eq_false_iff_ne.2 hs
      obtain ⟨RR, hRR⟩ : ∃ R, L.set m (st, M) = R := ⟨_, rfl⟩
      have HRL := Lib.hid (show RR.length = L.length from by rw [← hRR, List.length_set])
      rw [show (L.set m (((0 : Int), ((st, M) : D_Node)).2)) = RR from hRR] at HV
      clear hs hv
      go_wp2_with (first | (go_at_call 66; refine (hst _).mono ?_; rintro e w' ⟨rfl, rfl⟩) | (go_at_call 58; refine (hi _).mono ?_; rintro e w' ⟨rfl, rfl⟩) | fail)
      refine (copy_nodes hsm.1 hsm.2 H1.out).mono ?_
      intro e w2 h
      obtain ⟨a', c', rfl, ho, hb⟩ := newS_elim h
      obtain ⟨g, Sf, rfl, hrow⟩ := ho.row (by omega)
      have hc1 := ho.1
      have hc2 := ho.2.1
      obtain ⟨us, hu, hr⟩ := hrow.el m _ HX.out
      obtain ⟨ba2, bc2, T0, rfl, hT0, hO⟩ := ow_Node hr
      rw [size_NodeS] at hu
      have d0 : w2.cell? ⟨g, m * 2, none⟩ = some (.int .i64 s) := by simpa using hu 0 _ rfl
      have d1 : w2.cell? ⟨g, m * 2 + 1, none⟩ = some (.slice ba2 M.length bc2) := hu 1 _ rfl
      have s0 := hrow.soft (m * 2)
      have hgl := hrow.own.2
      have hset : ∀ q, q ≠ g → (w2.setCell ⟨g, m * 2, none⟩ (.int .i64 st)).heap[q]? = w2.heap[q]? := fun q hq => Below.heap_setCell w2 ⟨g, m * 2, none⟩ _ q hq
      have hrow2 := hrow.set R_Node_ok (fun q hq => hq.2) (x := (st, M)) (us := [.int .i64 st, .slice ba2 M.length bc2]) (W' := w2.setCell ⟨g, m * 2, none⟩ (.int .i64 st)) (by rw [size_NodeS]; exact Upd.set (lo := m * 2) (hi := (m + 1) * 2) _ _ ⟨by omega, by omega⟩ _) (fun j d hd => by
        rw [size_NodeS]
        match j, hd with
        | 0, hd => simp at hd; subst hd; exact World.cell?_setCell_same _ _ _ d0
        | 1, hd => simp at hd; subst hd; rw [World.cell?_setCell_other _ _ _ _ (fun e => by injection e with _ e2; omega)]; exact d1
        | j + 2, hd => simp at hd) (mkow_Node hT0 (hO.keep R_Span_ok fun q hq => hset q (hrow.sub m q (hT0 q hq)).2))
      rw [hRR] at hrow2
      have hlt1 := XR.out.lt
      have hz2 := hb.size
      have hgw : w1.heap.size ≤ g := hrow.own.1
      have hx6 : Blk (w2.setCell ⟨g, m * 2, none⟩ (.int .i64 st)) W.heap.size 29 #[.slice none 0 0, .int .i64 0] := (XR.out.call hb).far (by omega) _
      have hb6 : Below W.heap.size W (w2.setCell ⟨g, m * 2, none⟩ (.int .i64 st)) := (HB1.out.trans (hb.mono HB1.out.size)).setCell (p := ⟨g, m * 2, none⟩) (show W.heap.size ≤ g by omega) _
      obtain ⟨S', hSS⟩ : ∃ S', S' = Rg w1.heap.size w2.heap.size := ⟨_, rfl⟩
      rw [← hSS] at hrow2
      have hs6 : ∀ q, S' q → W.heap.size < q ∧ q < (w2.setCell ⟨g, m * 2, none⟩ (.int .i64 st)).heap.size := fun q hq => by rw [hSS] at hq; obtain ⟨h1, h2⟩ := hq; simp; omega
      clear h ho hb hu hr hO hset hrow d1 hi hst hRR hSS
      have hrow := hrow2
      clear hrow2
      have X6 := Lib.hid hx6
      have HB6 := Lib.hid hb6
      have HROW := Lib.hid hrow
      have HS6 := Lib.hid hs6
      have q0 := X6.out.at_ 0 rfl
      have q1 := X6.out.at_ 1 rfl
      have f0 := X6.out.soft 0
      have f1 := X6.out.soft 1
      clear hx6 hb6 hrow hs6
      go_wp2
      rw [HZS.out, HV.out]
      refine bodyPost_ret (v := .agg #[.slice (some ⟨g, 0, none⟩) L.length c', .int .i64 0]) (by simp [results, Try.results17, go_sem, *]) rfl ⟨[.slice (some ⟨g, 0, none⟩) RR.length c', .int .i64 0], by rw [HRL.out], ?_, (HB6.out.setCell (p := ⟨W.heap.size, 0, none⟩) (show W.heap.size ≤ W.heap.size by omega) _).setCell (p := ⟨W.heap.size, 1, none⟩) (show W.heap.size ≤ W.heap.size by omega) _⟩
      refine mkow_NodesOut (T0 := S') (fun q hq => ⟨?_, ?_⟩) ((HROW.out.slice (by rw [HRL.out]; exact hc1) hc2).keep R_Node_ok fun q hq => ?_)
      · have := (HS6.out q hq).1
        omega
      · have := (HS6.out q hq).2
        simpa using this
      · have h9 := (HS6.out q hq).1
        rw [Below.heap_setCell _ ⟨W.heap.size, 1, none⟩ _ q (show q ≠ W.heap.size by omega), Below.heap_setCell _ ⟨W.heap.size, 0, none⟩ _ q (show q ≠ W.heap.size by omega)]
end Go.Proofs.Ytfciojkibklkfaa.RepC
