/- Of this claim's texts the part 26: MlQ. -/
import Derived.Test.YtlgflddljhldhaaGreatPN19
import Derived.Test.YtlgflddljhldhaaGreatPN25
section
namespace Go.Proofs.YtlgflddljhldhaaGreat.RepC
open Go.RowKit RowC ValC SpanC KeptC CfC
set_option linter.unusedVariables false
set_option linter.unusedSimpArgs false
set_option maxRecDepth 100000 in
set_option maxHeartbeats 3200000 in
theorem notes_impl {L : List D_Note} {la : Option Addr} {lc : Nat} {W : World} (hL : RdSl R_Note W W.heap.size L la lc) :
    Calls Tryz.prog 112 #[.slice la L.length lc] W (ResB (LogR L) W) := by
  have hnL : L.length ≤ 9223372036854775807 := by have h1 := hL.1; have h2 := hL.2.1; unfold maxLen at h2; omega
  have H := Lib.hid hL
  clear hL
  by_cases h3 : L.length ≤ 12
  rotate_left
  · have hd3 : decide ((L.length : Int) > 12) = true := decide_eq_true (by omega)
    have hd3' : decide (12 < L.length) = true := decide_eq_true (by omega)
    have hd3'' : decide ((12 : Int) < (L.length : Int)) = true := decide_eq_true (by omega)
    have HN := Lib.hid (show ¬ LogR L from fun h => h3 h.1)
    go_enter Tryz.func112, Tryz.ntmps112
    go_wp2
    go_ret
    exact resB_no HN.out (Below.refl _ _)
  have hd3 : decide ((L.length : Int) > 12) = false := decide_eq_false (by omega)
  have hd3' : decide (12 < L.length) = false := decide_eq_false (by omega)
  have hd3'' : decide ((12 : Int) < (L.length : Int)) = false := decide_eq_false (by omega)
  have H3 := Lib.hid h3
  go_enter Tryz.func112, Tryz.ntmps112
  go_wp2
  clear hd3 hd3' hd3'' h3
  go_loopw [3, 11] (fun v i wr => ∃ j : Nat, j ≤ L.length ∧ i = .int .i64 j ∧ v = .int .i64 (lastAt L j) ∧ Hid (∀ (i : Nat) y, i < j → L[i]? = some y → logAt L i y) ∧ Below W.heap.size W wr) (fun _ i _ => L.length - (intOf i).toNat)
  case atStart => exact ⟨0, Nat.zero_le _, rfl, rfl, Lib.hid fun j x h => absurd h (Nat.not_lt_zero _), Below.refl _ _⟩
  case round =>
    obtain ⟨j, hj, rfl, rfl, HJ, hB⟩ := hrel
    obtain ⟨wo, rfl⟩ : ∃ x, x = wr := ⟨_, rfl⟩
    have HB := Lib.hid hB
    have hsz := hB.size
    obtain ⟨z, hz⟩ : ∃ z, lastAt L j = z := ⟨_, rfl⟩
    have HZ := Lib.hid hz
    rw [hz]
    clear hz
    by_cases hjl : j < L.length
    · have hdj : decide ((j : Int) < (L.length : Int)) = true := decide_eq_true (by omega)
      obtain ⟨⟨x0, x1⟩, hx⟩ := el_some hjl
      have HX := Lib.hid hx
      obtain ⟨g, o, us, rfl, hg, hu, hr⟩ := (rd_mv R_Note_ok H.out hB).at_ hx
      obtain rfl := rd_Note hr
      have e0 : wo.cell? ⟨g, o + j * 2, none⟩ = some (.int .i64 x0) := by simpa [size_NoteS, Nat.add_assoc] using hu 0 _ rfl
      have e1 : wo.cell? ⟨g, o + j * 2 + 1, none⟩ = some (.int .i64 x1) := by simpa [size_NoteS, Nat.add_assoc] using hu 1 _ rfl
      have hi0 : (0 : Int) ≤ (j : Int) := Int.natCast_nonneg _
      have hi1 : (j : Int) < (L.length : Int) := by omega
      obtain ⟨zi, hzi⟩ : ∃ b, isB x0 z 999900 = b := ⟨_, rfl⟩
      have HI := Lib.hid hzi
      have HLA := Lib.hid (logAt_iff hx HJ.out)
      obtain ⟨w1, hw1⟩ : ∃ w, w = wo.alloc (.cells #[.int .i64 x0, .int .i64 x1] 75) := ⟨_, rfl⟩
      have hb1 : Below wo.heap.size wo w1 := by rw [hw1]; exact (Below.refl _ _).alloc (Nat.le_refl _) _
      have T := Lib.hid (show Blk w1 wo.heap.size 75 #[.int .i64 x0, .int .i64 x1] from by rw [hw1]; exact Blk.new _ _ _)
      have HB1 := Lib.hid (HB.out.trans (hb1.mono hsz))
      clear hzi hu hr hg hx hB
      go_upto_region 7 with fail
      rw [← hw1]
      clear hw1 hb1 e0 e1
      have t0 := T.out.at_ 0 rfl
      have t1 := T.out.at_ 1 rfl
      go_wp2_with fail
      refine (wi_at _ _ _ HI.out _).mono ?_
      rintro e w2 ⟨rfl, rfl⟩
      cases zi with
      | false =>
        have HN := Lib.hid (show ¬ LogR L from fun h => by have h5 := HLA.out.1 (h.2 j _ HX.out); rw [HZ.out, HI.out] at h5; cases h5)
        go_wp2
        go_ret
        exact resB_no HN.out HB1.out
      | true =>
        have HA2 := Lib.hid (notes_step HJ.out HX.out (HLA.out.2 (by rw [HZ.out]; exact HI.out)))
        have HLS := Lib.hid (lastAt_succ HX.out)
        go_wp2
        go_roundw
        case rel => exact ⟨j + 1, by omega, by go_num, by rw [HLS.out], HA2, HB1.out⟩
        case measure => simp [intOf]; omega
    · have hdj : decide ((j : Int) < (L.length : Int)) = false := decide_eq_false (by omega)
      obtain rfl : j = L.length := by omega
      have HY := Lib.hid (show LogR L from ⟨H3.out, fun i y hy => HJ.out i y (el_lt hy) hy⟩)
      clear hB
      go_wp2
      go_ret
      exact resB_yes HY.out HB.out
set_option maxRecDepth 100000 in
set_option maxHeartbeats 3200000 in
theorem fits_impl {F G : List Int} {L : List D_Note} {fa ga la : Option Addr} {fc gc lc : Nat} {f0 f1 t0 t1 rt : Int} {W : World} (hnF : F.length ≤ 9223372036854775807) (hnG : G.length ≤ 9223372036854775807) (hK : RdSl R_Note W W.heap.size L la lc) :
    Calls Tryz.prog 80 #[.agg #[.slice fa F.length fc, .slice ga G.length gc, .slice la L.length lc], .agg #[.int .i64 f0, .int .i64 f1, .int .i64 t0, .int .i64 t1, .int .i64 rt]] W (ResB (boxR rt (F, G, L)) W) := by
  obtain ⟨w0, hw0⟩ : ∃ w, w = (W.alloc (.cells #[.slice fa F.length fc, .slice ga G.length gc, .slice la L.length lc] 73)).alloc (.cells #[.int .i64 f0, .int .i64 f1, .int .i64 t0, .int .i64 t1, .int .i64 rt] 77) := ⟨_, rfl⟩
  have hb0 : Below W.heap.size W w0 := by rw [hw0]; exact ((Below.refl _ _).alloc (Nat.le_refl _) _).alloc (by simp) _
  have x0_ : Blk w0 (W.heap.size) 73 #[.slice fa F.length fc, .slice ga G.length gc, .slice la L.length lc] := by
    have h9 := Blk.new W 73 #[.slice fa F.length fc, .slice ga G.length gc, .slice la L.length lc]
    try simp only [World.size_alloc] at h9
    rw [hw0]; exact (h9.alloc _)
  have X0 := Lib.hid x0_
  have x1_ : Blk w0 (W.heap.size + 1) 77 #[.int .i64 f0, .int .i64 f1, .int .i64 t0, .int .i64 t1, .int .i64 rt] := by
    have h9 := Blk.new (W.alloc (.cells #[.slice fa F.length fc, .slice ga G.length gc, .slice la L.length lc] 73)) 77 #[.int .i64 f0, .int .i64 f1, .int .i64 t0, .int .i64 t1, .int .i64 rt]
    try simp only [World.size_alloc] at h9
    rw [hw0]; exact h9
  have X1 := Lib.hid x1_
  have HK := Lib.hid (rd_mv R_Note_ok hK hb0)
  have HB0 := Lib.hid hb0
  have hz0 := hb0.size
  clear hb0 hK x0_ x1_
  by_cases h1 : (F.length : Int) ≤ rt
  rotate_left
  · have hd1 : decide ((F.length : Int) ≤ rt) = false := decide_eq_false h1
    have HN := Lib.hid (show ¬ boxR rt (F, G, L) from fun h => h1 h.1)
    clear h1
    go_enter Tryz.func80, Tryz.ntmps80
    go_upto_region 1 with fail
    rw [← hw0]
    clear hw0
    have qX0_0 := X0.out.at_ 0 rfl
    have qX0_1 := X0.out.at_ 1 rfl
    have qX0_2 := X0.out.at_ 2 rfl
    have qX1_0 := X1.out.at_ 0 rfl
    have qX1_1 := X1.out.at_ 1 rfl
    have qX1_2 := X1.out.at_ 2 rfl
    have qX1_3 := X1.out.at_ 3 rfl
    have qX1_4 := X1.out.at_ 4 rfl
    go_wp2
    go_ret
    exact resB_no HN.out HB0.out
  have hd1 : decide ((F.length : Int) ≤ rt) = true := decide_eq_true h1
  by_cases h2 : (G.length : Int) ≤ rt
  rotate_left
  · have hd2 : decide ((G.length : Int) ≤ rt) = false := decide_eq_false h2
    have HN := Lib.hid (show ¬ boxR rt (F, G, L) from fun h => h2 h.2.1)
    clear h1 h2
    go_enter Tryz.func80, Tryz.ntmps80
    go_upto_region 1 with fail
    rw [← hw0]
    clear hw0
    have qX0_0 := X0.out.at_ 0 rfl
    have qX0_1 := X0.out.at_ 1 rfl
    have qX0_2 := X0.out.at_ 2 rfl
    have qX1_0 := X1.out.at_ 0 rfl
    have qX1_1 := X1.out.at_ 1 rfl
    have qX1_2 := X1.out.at_ 2 rfl
    have qX1_3 := X1.out.at_ 3 rfl
    have qX1_4 := X1.out.at_ 4 rfl
    go_wp2
    go_ret
    exact resB_no HN.out HB0.out
  have hd2 : decide ((G.length : Int) ≤ rt) = true := decide_eq_true h2
  have H12 := Lib.hid (And.intro h1 h2)
  clear h1 h2
  go_enter Tryz.func80, Tryz.ntmps80
  go_upto_region 1 with fail
  rw [← hw0]
  clear hw0
  have qX0_0 := X0.out.at_ 0 rfl
  have qX0_1 := X0.out.at_ 1 rfl
  have qX0_2 := X0.out.at_ 2 rfl
  have qX1_0 := X1.out.at_ 0 rfl
  have qX1_1 := X1.out.at_ 1 rfl
  have qX1_2 := X1.out.at_ 2 rfl
  have qX1_3 := X1.out.at_ 3 rfl
  have qX1_4 := X1.out.at_ 4 rfl
  go_wp2_with fail
  refine (notes_impl HK.out).mono ?_
  intro e w2 h
  obtain ⟨z, rfl, hz, hb⟩ := resB_elim h
  have HZ := Lib.hid hz
  have HBZ := Lib.hid (HB0.out.trans (hb.mono HB0.out.size))
  clear h hz hb
  go_wp2
  go_ret
  exact ⟨z, rfl, ⟨fun h => ⟨H12.out.1, H12.out.2, HZ.out.1 h⟩, fun h => HZ.out.2 h.2.2⟩, HBZ.out⟩
set_option maxRecDepth 100000 in
set_option maxHeartbeats 3200000 in
theorem mail_impl {C : List (List D_Label)} {P : List D_Pair} {Q : List D_Quota} {hf : Int} {ca pa qa : Option Addr} {cc pc qc : Nat} {M : List D_Box} {xa : Option Addr} {xc : Nat} {W : World} (hC : RdSl (Sl R_Label) W W.heap.size C ca cc) (hP : RdSl R_Pair W W.heap.size P pa pc) (hQ : RdSl R_Quota W W.heap.size Q qa qc) (hX : RdSl R_Box W W.heap.size M xa xc) :
    Calls Tryz.prog 43 #[.agg #[.slice ca C.length cc, .slice pa P.length pc, .slice qa Q.length qc, .int .i64 hf], .agg #[.slice xa M.length xc]] W (IsB (mailB (C, P, Q, hf) M) W) := by
  have hnM : M.length ≤ 9223372036854775807 := by have h1 := hX.1; have h2 := hX.2.1; unfold maxLen at h2; omega
  have hnP : P.length ≤ 9223372036854775807 := by have h1 := hP.1; have h2 := hP.2.1; unfold maxLen at h2; omega
  obtain ⟨b0, hb0⟩ : ∃ b, cfgB C P Q hf = b := ⟨_, rfl⟩
  have Hb0 := Lib.hid hb0
  clear hb0
  refine Calls.mono ?_ fun e w' h => resB_at mailB_iff h
  obtain ⟨w0, hw0⟩ : ∃ w, w = (W.alloc (.cells #[.slice ca C.length cc, .slice pa P.length pc, .slice qa Q.length qc, .int .i64 hf] 44)).alloc (.cells #[.slice xa M.length xc] 36) := ⟨_, rfl⟩
  have hb0 : Below W.heap.size W w0 := by rw [hw0]; exact ((Below.refl _ _).alloc (Nat.le_refl _) _).alloc (by simp) _
  have x0_ : Blk w0 (W.heap.size) 44 #[.slice ca C.length cc, .slice pa P.length pc, .slice qa Q.length qc, .int .i64 hf] := by
    have h9 := Blk.new W 44 #[.slice ca C.length cc, .slice pa P.length pc, .slice qa Q.length qc, .int .i64 hf]
    try simp only [World.size_alloc] at h9
    rw [hw0]; exact (h9.alloc _)
  have X0 := Lib.hid x0_
  have x1_ : Blk w0 (W.heap.size + 1) 36 #[.slice xa M.length xc] := by
    have h9 := Blk.new (W.alloc (.cells #[.slice ca C.length cc, .slice pa P.length pc, .slice qa Q.length qc, .int .i64 hf] 44)) 36 #[.slice xa M.length xc]
    try simp only [World.size_alloc] at h9
    rw [hw0]; exact h9
  have X1 := Lib.hid x1_
  have HC := Lib.hid (rd_mv (Sl_ok R_Label_ok) hC hb0)
  have HP := Lib.hid (rd_mv R_Pair_ok hP hb0)
  have HQ := Lib.hid (rd_mv R_Quota_ok hQ hb0)
  have HX := Lib.hid (rd_mv R_Box_ok hX hb0)
  have HB0 := Lib.hid hb0
  have hz0 := hb0.size
  clear hb0 hC hP hQ hX x0_ x1_
  go_enter Tryz.func43, Tryz.ntmps43
  go_upto_region 1 with fail
  rw [← hw0]
  clear hw0
  have qX0_0 := X0.out.at_ 0 rfl
  have qX0_1 := X0.out.at_ 1 rfl
  have qX0_2 := X0.out.at_ 2 rfl
  have qX0_3 := X0.out.at_ 3 rfl
  have qX1_0 := X1.out.at_ 0 rfl
  go_wp2_with fail
  have hcx := config_impl (hf := hf) HC.out HP.out HQ.out
  rw [Hb0.out] at hcx
  refine hcx.mono ?_
  intro e v1 h
  obtain ⟨rfl, hb⟩ := isB_elim h
  have HC := Lib.hid (rd_mv (Sl_ok R_Label_ok) HC.out hb)
  have HP := Lib.hid (rd_mv R_Pair_ok HP.out hb)
  have HQ := Lib.hid (rd_mv R_Quota_ok HQ.out hb)
  have HX := Lib.hid (rd_mv R_Box_ok HX.out hb)
  have X0 := Lib.hid (X0.out.call hb)
  have X1 := Lib.hid (X1.out.call hb)
  have HB0 := Lib.hid (HB0.out.trans (hb.mono HB0.out.size))
  clear h hb hcx qX0_0 qX0_1 qX0_2 qX0_3 qX1_0
  have qX0_0 := X0.out.at_ 0 rfl
  have qX0_1 := X0.out.at_ 1 rfl
  have qX0_2 := X0.out.at_ 2 rfl
  have qX0_3 := X0.out.at_ 3 rfl
  have qX1_0 := X1.out.at_ 0 rfl
  cases b0 with
  | false =>
    have HN := Lib.hid (show ¬ mailP (C, P, Q, hf) M from fun h => by have h2 := cfgB_iff.2 h.1; rw [Hb0.out] at h2; cases h2)
    go_wp2
    go_ret
    exact resB_no HN.out HB0.out
  | true =>
  have HCF := Lib.hid (cfgB_iff.1 Hb0.out)
  by_cases hl : M.length = P.length
  rotate_left
  · have hne : ((M.length : Int) != (P.length : Int)) = true := bne_iff_ne.2 (by omega)
    have HN := Lib.hid (show ¬ mailP (C, P, Q, hf) M from fun h => hl h.2.1)
    clear hl
    go_wp2
    go_ret
    exact resB_no HN.out HB0.out
  have hne : ((M.length : Int) != (P.length : Int)) = false := by rw [hl]; exact bne_self_eq_false' (a := (P.length : Int))
  have HL := Lib.hid hl
  clear hl
  have hz1 := HB0.out.size
  go_wp2
  go_loopw [22] (fun i wr => ∃ k : Nat, k ≤ M.length ∧ i = .int .i64 k ∧ Hid (∀ (i : Nat) x p, i < k → M[i]? = some x → P[i]? = some p → boxR p.2.2 x) ∧ Below v1.heap.size v1 wr) (fun i _ => M.length - (intOf i).toNat)
  case atStart => exact ⟨0, Nat.zero_le _, rfl, Lib.hid fun j x p h => absurd h (Nat.not_lt_zero _), Below.refl _ _⟩
  case round =>
    obtain ⟨k, hk, rfl, HA, hB⟩ := hrel
    obtain ⟨wo, rfl⟩ : ∃ x, x = wr := ⟨_, rfl⟩
    have HB := Lib.hid hB
    have hsz := hB.size
    have HBW := Lib.hid (HB0.out.trans (hB.mono hz1))
    have Z0 := Lib.hid (X0.out.call hB)
    have Z1 := Lib.hid (X1.out.call hB)
    by_cases hlt : k < M.length
    · have hdl : decide ((k : Int) < (M.length : Int)) = true := decide_eq_true (by omega)
      have hlp : k < P.length := by have := HL.out; omega
      obtain ⟨⟨F, G, L⟩, hx⟩ := el_some hlt
      obtain ⟨⟨⟨f0, f1⟩, ⟨t0, t1⟩, rt⟩, hp⟩ := el_some hlp
      have HX9 := Lib.hid hx
      have HP9 := Lib.hid hp
      obtain ⟨gp, op, us, rfl, hgp, hu, hr⟩ := (rd_mv R_Pair_ok HP.out hB).at_ hp
      obtain rfl := rd_Pair hr
      have HGP := Lib.hid hgp
      have p0 : wo.cell? ⟨gp, op + k * 5, none⟩ = some (.int .i64 f0) := by simpa [size_PairS, Nat.add_assoc] using hu 0 _ rfl
      have p1 : wo.cell? ⟨gp, op + k * 5 + 1, none⟩ = some (.int .i64 f1) := by simpa [size_PairS, Nat.add_assoc] using hu 1 _ rfl
      have p2 : wo.cell? ⟨gp, op + k * 5 + 2, none⟩ = some (.int .i64 t0) := by simpa [size_PairS, Nat.add_assoc] using hu 2 _ rfl
      have p3 : wo.cell? ⟨gp, op + k * 5 + 3, none⟩ = some (.int .i64 t1) := by simpa [size_PairS, Nat.add_assoc] using hu 3 _ rfl
      have p4 : wo.cell? ⟨gp, op + k * 5 + 4, none⟩ = some (.int .i64 rt) := by simpa [size_PairS, Nat.add_assoc] using hu 4 _ rfl
      clear hu hr hgp
      obtain ⟨g, o, us, rfl, hg, hu, hr⟩ := (rd_mv R_Box_ok HX.out hB).at_ hx
      obtain ⟨fa, fc, ga, gc, la, lc, rfl, k_F, k_G, k_L⟩ := rd_Box hr
      have HG := Lib.hid hg
      have HKL := Lib.hid k_L
      have e0 : wo.cell? ⟨g, o + k * 3, none⟩ = some (.slice fa F.length fc) := by simpa [size_BoxS, Nat.add_assoc] using hu 0 _ rfl
      have e1 : wo.cell? ⟨g, o + k * 3 + 1, none⟩ = some (.slice ga G.length gc) := by simpa [size_BoxS, Nat.add_assoc] using hu 1 _ rfl
      have e2 : wo.cell? ⟨g, o + k * 3 + 2, none⟩ = some (.slice la L.length lc) := by simpa [size_BoxS, Nat.add_assoc] using hu 2 _ rfl
      have hi0 : (0 : Int) ≤ (k : Int) := Int.natCast_nonneg _
      have hi1 : (k : Int) < (M.length : Int) := by omega
      have hi2 : (k : Int) < (P.length : Int) := by omega
      have hnF : F.length ≤ 9223372036854775807 := by have h1 := k_F.1; have h2 := k_F.2.1; unfold maxLen at h2; omega
      have hnG : G.length ≤ 9223372036854775807 := by have h1 := k_G.1; have h2 := k_G.2.1; unfold maxLen at h2; omega
      have hnL : L.length ≤ 9223372036854775807 := by have h1 := k_L.1; have h2 := k_L.2.1; unfold maxLen at h2; omega
      obtain ⟨w1, hw1⟩ : ∃ w, w = wo.alloc (.cells #[.slice fa F.length fc, .slice ga G.length gc, .slice la L.length lc] 73) := ⟨_, rfl⟩
      have hb1 : Below wo.heap.size wo w1 := by rw [hw1]; exact (Below.refl _ _).alloc (Nat.le_refl _) _
      have T := Lib.hid (show Blk w1 wo.heap.size 73 #[.slice fa F.length fc, .slice ga G.length gc, .slice la L.length lc] from by rw [hw1]; exact Blk.new _ _ _)
      have Y0 := Lib.hid (Z0.out.call hb1)
      have Y1 := Lib.hid (Z1.out.call hb1)
      have HB1 := Lib.hid (HB.out.trans (hb1.mono hsz))
      have HBW1 := Lib.hid (HBW.out.trans (hb1.mono HBW.out.size))
      have HGP1 := Lib.hid (Nat.lt_of_lt_of_le HGP.out hb1.size)
      have E0 := Lib.hid ((hb1.cell (p := ⟨gp, op + k * 5, none⟩) HGP.out).trans p0)
      have E1 := Lib.hid ((hb1.cell (p := ⟨gp, op + k * 5 + 1, none⟩) HGP.out).trans p1)
      have E2 := Lib.hid ((hb1.cell (p := ⟨gp, op + k * 5 + 2, none⟩) HGP.out).trans p2)
      have E3 := Lib.hid ((hb1.cell (p := ⟨gp, op + k * 5 + 3, none⟩) HGP.out).trans p3)
      have E4 := Lib.hid ((hb1.cell (p := ⟨gp, op + k * 5 + 4, none⟩) HGP.out).trans p4)
      have HKL1 := Lib.hid (rd_mv R_Note_ok (rd_mv R_Note_ok HKL.out (Below.refl _ _)) hb1)
      have hz2 := HB1.out.size
      have hzw := HBW1.out.size
      have q1 := Z0.out.at_ 1 rfl
      clear hu hr hg k_F k_G k_L hx hp hB p0 p1 p2 p3 p4
      go_upto_region 6 with fail
      rw [← hw1]
      clear hw1 hb1 e0 e1 e2 q1
      refine wp_region_held_drew (S := (fun V => Below (w1).heap.size (w1) V)) (by kernel_rfl) ((Below.refl _ _).drew) (fun hHeld => ?_)
      refine tk 0 hHeld ?_ (hy := fun w hSw => by (try dsimp only at hSw); have k0 := (hSw.cell (p := ⟨wo.heap.size, 0, none⟩) T.out.lt).trans (T.out.at_ 0 rfl); have k1 := (hSw.cell (p := ⟨wo.heap.size, 1, none⟩) T.out.lt).trans (T.out.at_ 1 rfl); have k2 := (hSw.cell (p := ⟨wo.heap.size, 2, none⟩) T.out.lt).trans (T.out.at_ 2 rfl); clear hSw; go_simp; try with_reducible rfl)
      refine tk 1 hHeld ?_
      refine tk 2 hHeld ?_ (hy := fun w hSw => by (try dsimp only at hSw); have k0 := (hSw.cell (p := ⟨W.heap.size, 1, none⟩) Y0.out.lt).trans (Y0.out.at_ 1 rfl); clear hSw; go_simp; try with_reducible rfl)
      refine tk 3 hHeld ?_
      refine tk 4 hHeld ?_
      refine tk 5 hHeld ?_ (hy := fun w hSw => by (try dsimp only at hSw); have k0 := (hSw.cell (p := ⟨gp, op + k * 5, none⟩) HGP1.out).trans E0.out; have k1 := (hSw.cell (p := ⟨gp, op + k * 5 + 1, none⟩) HGP1.out).trans E1.out; have k2 := (hSw.cell (p := ⟨gp, op + k * 5 + 2, none⟩) HGP1.out).trans E2.out; have k3 := (hSw.cell (p := ⟨gp, op + k * 5 + 3, none⟩) HGP1.out).trans E3.out; have k4 := (hSw.cell (p := ⟨gp, op + k * 5 + 4, none⟩) HGP1.out).trans E4.out; clear hSw; go_simp; try with_reducible rfl)
      refine rd1 6 (fun K hK => ?_)
      go_simp
      go_at_call 80
      refine (fits_impl hnF hnG (rd_mv R_Note_ok HKL1.out hHeld)).mono ?_
      intro e w5 h
      obtain ⟨q, rfl, hq, hb⟩ := resB_elim h
      have HQ9 := Lib.hid hq
      clear h hq
      refine hK.out _ _ (hHeld.trans (hb.mono hHeld.size)) (fun hHeld => ?_)
      clear hK K hb
      refine tk 7 hHeld ?_
      refine rd0 ?_
      have HF := Lib.hid hHeld
      clear hHeld
      have HB2 := Lib.hid (HB1.out.trans (HF.out.mono hz2))
      have HBW2 := Lib.hid (HBW1.out.trans (HF.out.mono hzw))
      clear HF
      cases q with
      | false =>
        have HN := Lib.hid (not_mail (d := (C, P, Q, hf)) HX9.out HP9.out (fun h => by have h5 := HQ9.out.2 h; cases h5))
        go_wp2
        go_ret
        exact resB_no HN.out HBW2.out
      | true =>
        have HA3 := Lib.hid (boxes_step HA.out HX9.out HP9.out (HQ9.out.1 rfl))
        go_wp2
        go_roundw
        case rel => exact ⟨k + 1, by omega, by go_num, HA3, HB2.out⟩
        case measure => simp [intOf]; omega
    · have hdl : decide ((k : Int) < (M.length : Int)) = false := decide_eq_false (by omega)
      have HY := Lib.hid (show mailP (C, P, Q, hf) M from ⟨HCF.out, HL.out, fun i x p hx hp => HA.out i x p (by have := el_lt hx; omega) hx hp⟩)
      clear hB
      go_wp2
      go_ret
      exact resB_yes HY.out HBW.out
end Go.Proofs.YtlgflddljhldhaaGreat.RepC
end
