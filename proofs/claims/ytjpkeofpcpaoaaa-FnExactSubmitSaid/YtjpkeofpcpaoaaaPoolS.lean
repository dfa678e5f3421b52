/- Submit of the model: a contract. -/
import Derived.Test.YtjpkeofpcpaoaaaPoolN
namespace Go.Proofs.Ytjpkeofpcpaoaaa.RepC
open Go.RowKit RowC ValC SpanC KeptC
set_option linter.unusedVariables false
set_option linter.unusedSimpArgs false

def cntC (C : List (List D_Label)) (l s : Int) : Nat := (C.filter (fun x => decide ((l, s) ∈ x))).length
theorem cntC_le (C : List (List D_Label)) (l s : Int) : cntC C l s ≤ C.length := List.length_filter_le _ _
theorem cntC_step {C : List (List D_Label)} {k : Nat} {x : List D_Label} {l s : Int} (h : C[k]? = some x) : cntC (C.take (k + 1)) l s = cntC (C.take k) l s + if (l, s) ∈ x then 1 else 0 := by
  unfold cntC
  rw [List.take_add_one, h]
  by_cases e : (l, s) ∈ x <;> simp [e]
def subJ (L : List D_Job) (l s need long prio : Int) : D_Job := ((l, s), (cnt L l s : Int) + 1, need, long, prio, 1, 0, [])
open Classical in
noncomputable def subD (C : List (List D_Label)) (L : List D_Job) (now l s need long prio : Int) : OutD :=
  if ¬ (PoolR C L now ∧ JobR l s 1 need long prio 1 0 []) then illD 1 else if (cntC C l s : Int) < need then illD 11 else if 3 < (cnt L l s : Int) + 1 then illD 9
  else (C, L ++ [subJ L l s need long prio], now, (cnt L l s : Int) + 1, 0)

set_option maxRecDepth 100000 in
set_option maxHeartbeats 3200000 in
theorem submit_spec {C : List (List D_Label)} {L : List D_Job} {now l s need long prio : Int} {ca ja : Option Addr} {cc jc : Nat} {W : World} (hzC : (Sl (Sl R_Label)).sz C ≤ 1048576) (hzL : (Sl R_Job).sz L ≤ 1048576) (hC : RdSl (Sl R_Label) W W.heap.size C ca cc) (hL : RdSl R_Job W W.heap.size L ja jc) :
    Calls Try.prog 51 #[.agg #[.slice ca C.length cc, .slice ja L.length jc, .int .i64 now], .agg #[.int .i64 l, .int .i64 s], .int .i64 need, .int .i64 long, .int .i64 prio] W (PoolO (subD C L now l s need long prio) W) := by
  have HC := Lib.hid hC
  have HL := Lib.hid hL
  have HZC := Lib.hid hzC
  have HZL := Lib.hid hzL
  have hcn : C.length ≤ 1048576 := Nat.le_trans (Nat.le_add_right _ _) hzC
  have hln : L.length ≤ 1048576 := Nat.le_trans (Nat.le_add_right _ _) hzL
  clear hC hL hzC hzL
  obtain ⟨W4, hW4⟩ : ∃ w, w = (((W.alloc (.cells #[.slice ca C.length cc, .slice ja L.length jc, .int .i64 now] 65)).alloc (.cells #[.int .i64 l, .int .i64 s] 43)).alloc (.cells #[.slice none 0 0, .slice none 0 0, .int .i64 0, .int .i64 0, .int .i64 0] 71)).alloc (.cells #[.int .i64 l, .int .i64 s, .int .i64 1, .int .i64 need, .int .i64 long, .int .i64 prio, .int .i64 1, .int .i64 0, .slice none 0 0] 45) := ⟨_, rfl⟩
  have HB0 := Lib.hid (show Below W.heap.size W W4 from by rw [hW4]; exact ((((Below.refl _ _).alloc (Nat.le_refl _) _).alloc (by simp) _).alloc (by simp; omega) _).alloc (by simp; omega) _)
  have HP_0 := Lib.hid (show Blk W4 W.heap.size 65 #[.slice ca C.length cc, .slice ja L.length jc, .int .i64 now] from by
    rw [hW4]
    have h := (((Blk.new (W) 65 #[.slice ca C.length cc, .slice ja L.length jc, .int .i64 now]).alloc (.cells #[.int .i64 l, .int .i64 s] 43)).alloc (.cells #[.slice none 0 0, .slice none 0 0, .int .i64 0, .int .i64 0, .int .i64 0] 71)).alloc (.cells #[.int .i64 l, .int .i64 s, .int .i64 1, .int .i64 need, .int .i64 long, .int .i64 prio, .int .i64 1, .int .i64 0, .slice none 0 0] 45)
    skip
    exact h)
  have HB_0 := Lib.hid (show Blk W4 (W.heap.size + 1) 43 #[.int .i64 l, .int .i64 s] from by
    rw [hW4]
    have h := ((Blk.new (W.alloc (.cells #[.slice ca C.length cc, .slice ja L.length jc, .int .i64 now] 65)) 43 #[.int .i64 l, .int .i64 s]).alloc (.cells #[.slice none 0 0, .slice none 0 0, .int .i64 0, .int .i64 0, .int .i64 0] 71)).alloc (.cells #[.int .i64 l, .int .i64 s, .int .i64 1, .int .i64 need, .int .i64 long, .int .i64 prio, .int .i64 1, .int .i64 0, .slice none 0 0] 45)
    simp only [World.size_alloc] at h
    exact h)
  have HR_0 := Lib.hid (show Blk W4 (W.heap.size + 1 + 1) 71 #[.slice none 0 0, .slice none 0 0, .int .i64 0, .int .i64 0, .int .i64 0] from by
    rw [hW4]
    have h := (Blk.new ((W.alloc (.cells #[.slice ca C.length cc, .slice ja L.length jc, .int .i64 now] 65)).alloc (.cells #[.int .i64 l, .int .i64 s] 43)) 71 #[.slice none 0 0, .slice none 0 0, .int .i64 0, .int .i64 0, .int .i64 0]).alloc (.cells #[.int .i64 l, .int .i64 s, .int .i64 1, .int .i64 need, .int .i64 long, .int .i64 prio, .int .i64 1, .int .i64 0, .slice none 0 0] 45)
    simp only [World.size_alloc] at h
    exact h)
  have HJ_0 := Lib.hid (show Blk W4 (W.heap.size + 1 + 1 + 1) 45 #[.int .i64 l, .int .i64 s, .int .i64 1, .int .i64 need, .int .i64 long, .int .i64 prio, .int .i64 1, .int .i64 0, .slice none 0 0] from by
    rw [hW4]
    have h := Blk.new (((W.alloc (.cells #[.slice ca C.length cc, .slice ja L.length jc, .int .i64 now] 65)).alloc (.cells #[.int .i64 l, .int .i64 s] 43)).alloc (.cells #[.slice none 0 0, .slice none 0 0, .int .i64 0, .int .i64 0, .int .i64 0] 71)) 45 #[.int .i64 l, .int .i64 s, .int .i64 1, .int .i64 need, .int .i64 long, .int .i64 prio, .int .i64 1, .int .i64 0, .slice none 0 0]
    simp only [World.size_alloc] at h
    exact h)
  go_enter Try.func51, Try.ntmps51
  go_wp2_with fail
  rw [← hW4]
  clear hW4
  refine (poolright_spec ((HC.out.below (Sl_ok R_Label_ok) HB0.out).more (Sl_ok R_Label_ok) HB0.out.size) ((HL.out.below R_Job_ok HB0.out).more R_Job_ok HB0.out.size)).mono ?_
  intro e w1 h
  obtain ⟨q1, rfl, hq, hb⟩ := resB_elim h
  have HQ1 := Lib.hid hq
  clear hq
  have P_1 := Lib.hid (HP_0.out.call hb)
  have B_1 := Lib.hid (HB_0.out.call hb)
  have R_1 := Lib.hid (HR_0.out.call hb)
  have J_1 := Lib.hid (HJ_0.out.call hb)
  have HB1 := Lib.hid (HB0.out.trans ((hb).mono HB0.out.size))
  clear HP_0 HB_0 HR_0 HJ_0 HB0
  clear h hb
  cases q1 with
  | false =>
    have HN := Lib.hid (show subD C L now l s need long prio = illD 1 from if_pos (fun h => by have := HQ1.out.2 h.1; cases this))
    go_wp2_with fail
    refine (ill_spec 1 _).mono ?_
    intro e w2 h
    have h0 := h
    obtain ⟨rfl, hb⟩ := h0
    have P_2 := Lib.hid (P_1.out.call hb)
    have B_2 := Lib.hid (B_1.out.call hb)
    have R_2 := Lib.hid (R_1.out.call hb)
    have J_2 := Lib.hid (J_1.out.call hb)
    have HB2 := Lib.hid (HB1.out.trans ((hb).mono HB1.out.size))
    clear P_1 B_1 R_1 J_1 HB1
    clear h hb
    have qR_0 := R_2.out.at_ 0 rfl
    have qR_1 := R_2.out.at_ 1 rfl
    have qR_2 := R_2.out.at_ 2 rfl
    have qR_3 := R_2.out.at_ 3 rfl
    have qR_4 := R_2.out.at_ 4 rfl
    have sR_0 := R_2.out.soft 0
    have sR_1 := R_2.out.soft 1
    have sR_2 := R_2.out.soft 2
    have sR_3 := R_2.out.soft 3
    have sR_4 := R_2.out.soft 4
    go_wp2
    refine bodyPost_ret (v := .agg #[.slice none 0 0, .slice none 0 0, .int .i64 0, .int .i64 0, .int .i64 1]) (by simp [results, Try.results51, go_sem, *]) rfl ?_
    rw [HN.out]
    exact illO 1 (((((HB2.out.setCell (p := ⟨W.heap.size + 1 + 1, 0, none⟩) (by show W.heap.size ≤ W.heap.size + 1 + 1; omega) (.slice none 0 0)).setCell (p := ⟨W.heap.size + 1 + 1, 1, none⟩) (by show W.heap.size ≤ W.heap.size + 1 + 1; omega) (.slice none 0 0)).setCell (p := ⟨W.heap.size + 1 + 1, 2, none⟩) (by show W.heap.size ≤ W.heap.size + 1 + 1; omega) (.int .i64 0)).setCell (p := ⟨W.heap.size + 1 + 1, 3, none⟩) (by show W.heap.size ≤ W.heap.size + 1 + 1; omega) (.int .i64 0)).setCell (p := ⟨W.heap.size + 1 + 1, 4, none⟩) (by show W.heap.size ≤ W.heap.size + 1 + 1; omega) (.int .i64 1))
  | true =>
    have qJ_0 := J_1.out.at_ 0 rfl
    have qJ_1 := J_1.out.at_ 1 rfl
    have qJ_2 := J_1.out.at_ 2 rfl
    have qJ_3 := J_1.out.at_ 3 rfl
    have qJ_4 := J_1.out.at_ 4 rfl
    have qJ_5 := J_1.out.at_ 5 rfl
    have qJ_6 := J_1.out.at_ 6 rfl
    have qJ_7 := J_1.out.at_ 7 rfl
    have qJ_8 := J_1.out.at_ 8 rfl
    go_wp2_with fail
    refine (jobright_spec (L := []) (a := none) (c := 0) (rd_none _ _ _)).mono ?_
    intro e w2 h
    obtain ⟨q2, rfl, hq, hb⟩ := resB_elim h
    have HQ2 := Lib.hid hq
    clear hq
    clear qJ_0 qJ_1 qJ_2 qJ_3 qJ_4 qJ_5 qJ_6 qJ_7 qJ_8
    have P_2 := Lib.hid (P_1.out.call hb)
    have B_2 := Lib.hid (B_1.out.call hb)
    have R_2 := Lib.hid (R_1.out.call hb)
    have J_2 := Lib.hid (J_1.out.call hb)
    have HB2 := Lib.hid (HB1.out.trans ((hb).mono HB1.out.size))
    clear P_1 B_1 R_1 J_1 HB1
    clear h hb
    cases q2 with
    | false =>
      have HN := Lib.hid (show subD C L now l s need long prio = illD 1 from if_pos (fun h => by have := HQ2.out.2 h.2; cases this))
      go_wp2_with fail
      refine (ill_spec 1 _).mono ?_
      intro e w3 h
      have h0 := h
      obtain ⟨rfl, hb⟩ := h0
      have P_3 := Lib.hid (P_2.out.call hb)
      have B_3 := Lib.hid (B_2.out.call hb)
      have R_3 := Lib.hid (R_2.out.call hb)
      have J_3 := Lib.hid (J_2.out.call hb)
      have HB3 := Lib.hid (HB2.out.trans ((hb).mono HB2.out.size))
      clear P_2 B_2 R_2 J_2 HB2
      clear h hb
      have qR_0 := R_3.out.at_ 0 rfl
      have qR_1 := R_3.out.at_ 1 rfl
      have qR_2 := R_3.out.at_ 2 rfl
      have qR_3 := R_3.out.at_ 3 rfl
      have qR_4 := R_3.out.at_ 4 rfl
      have sR_0 := R_3.out.soft 0
      have sR_1 := R_3.out.soft 1
      have sR_2 := R_3.out.soft 2
      have sR_3 := R_3.out.soft 3
      have sR_4 := R_3.out.soft 4
      go_wp2
      refine bodyPost_ret (v := .agg #[.slice none 0 0, .slice none 0 0, .int .i64 0, .int .i64 0, .int .i64 1]) (by simp [results, Try.results51, go_sem, *]) rfl ?_
      rw [HN.out]
      exact illO 1 (((((HB3.out.setCell (p := ⟨W.heap.size + 1 + 1, 0, none⟩) (by show W.heap.size ≤ W.heap.size + 1 + 1; omega) (.slice none 0 0)).setCell (p := ⟨W.heap.size + 1 + 1, 1, none⟩) (by show W.heap.size ≤ W.heap.size + 1 + 1; omega) (.slice none 0 0)).setCell (p := ⟨W.heap.size + 1 + 1, 2, none⟩) (by show W.heap.size ≤ W.heap.size + 1 + 1; omega) (.int .i64 0)).setCell (p := ⟨W.heap.size + 1 + 1, 3, none⟩) (by show W.heap.size ≤ W.heap.size + 1 + 1; omega) (.int .i64 0)).setCell (p := ⟨W.heap.size + 1 + 1, 4, none⟩) (by show W.heap.size ≤ W.heap.size + 1 + 1; omega) (.int .i64 1))
    | true =>
      have HPJ := Lib.hid (show PoolR C L now ∧ JobR l s 1 need long prio 1 0 [] from ⟨HQ1.out.1 (by first | rfl | trivial), HQ2.out.1 (by first | rfl | trivial)⟩)
      clear HQ1 HQ2
      have hbx := HB2.out
      go_wp2
      go_loopw [12, 13] (fun z i wr => ∃ k : Nat, k ≤ C.length ∧ i = .int .i64 k ∧ z = .int .i64 (cntC (C.take k) l s : Nat) ∧ Below W.heap.size W wr ∧ Hid (Blk wr W.heap.size 65 #[.slice ca C.length cc, .slice ja L.length jc, .int .i64 now]) ∧ Hid (Blk wr (W.heap.size + 1) 43 #[.int .i64 l, .int .i64 s]) ∧ Hid (Blk wr (W.heap.size + 1 + 1) 71 #[.slice none 0 0, .slice none 0 0, .int .i64 0, .int .i64 0, .int .i64 0]) ∧ Hid (Blk wr (W.heap.size + 1 + 1 + 1) 45 #[.int .i64 l, .int .i64 s, .int .i64 1, .int .i64 need, .int .i64 long, .int .i64 prio, .int .i64 1, .int .i64 0, .slice none 0 0])) (fun _ i _ => C.length - (intOf i).toNat)
      case atStart => exact ⟨0, Nat.zero_le _, rfl, rfl, hbx, P_2, B_2, R_2, J_2⟩
      case round =>
        obtain ⟨k, hk, rfl, rfl, hB, HP, HBB, HR, HJ⟩ := hrel
        have HW := Lib.hid hB
        have hsz := hB.size
        have p0 := HP.out.at_ 0 rfl
        have p1 := HP.out.at_ 1 rfl
        have u0 := HBB.out.at_ 0 rfl
        have u1 := HBB.out.at_ 1 rfl
        clear hbx
        by_cases hlt : k < C.length
        · have hdl : decide ((k : Int) < (C.length : Int)) = true := decide_eq_true (by omega)
          obtain ⟨x, hx⟩ := el_some hlt
          have HS := Lib.hid (cntC_step (l := l) (s := s) hx)
          obtain ⟨g, o, us, rfl, hg, hu, hr⟩ := HC.out.at_ hx
          obtain ⟨a1, c1, rfl, hx1⟩ := hr
          have e0 : wr.cell? ⟨g, o + k, none⟩ = some (.slice a1 x.length c1) := (hB.cell (p := ⟨g, o + k, none⟩) hg).trans (by simpa [size_SLab] using hu 0 _ rfl)
          have hi0 : (0 : Int) ≤ (k : Int) := Int.natCast_nonneg _
          have hi1 : (k : Int) < (C.length : Int) := by omega
          have hgl : g < wr.heap.size := Nat.lt_of_lt_of_le hg hsz
          have HX := Lib.hid (show RdSl R_Label wr wr.heap.size x a1 c1 from (hx1.below R_Label_ok hB).more R_Label_ok hsz)
          have hcl : cntC (C.take k) l s ≤ k := Nat.le_trans (cntC_le _ _ _) (by rw [List.length_take]; omega)
          have hwr : IntKind.i64.wrap ((cntC (C.take k) l s : Nat) + 1) = ((cntC (C.take k) l s : Nat) : Int) + 1 := IntWalk.i64_in _ (by omega)
          clear hx hu hx1 hB
          go_wp2_with fail
          refine wp_region_held_drew (S := (fun V => Below (wr).heap.size (wr) V)) (by kernel_rfl) ((Below.refl _ _).drew) (fun hHeld => ?_)
          (refine wpAnyH_take (i := 0) (v := ?hv1) rfl (by kernel_rfl) (by kernel_rfl) (by kernel_rfl) (fun _ _ _ h => h) (Or.inl ⟨by kernel_rfl, ?hy1⟩) hHeld ?hr1; case hy1 => (intro w hSw; (try dsimp only at hSw); go_simp; try with_reducible rfl))
          simp only [Act.put, List.getElem_toArray, List.getElem_cons_succ, List.getElem_cons_zero, List.setIfInBounds_toArray, List.set_cons_zero, List.set_cons_succ]
          (refine wpAnyH_take (i := 1) (v := ?hv2) rfl (by kernel_rfl) (by kernel_rfl) (by kernel_rfl) (fun _ _ _ h => h) (Or.inl ⟨by kernel_rfl, ?hy2⟩) hHeld ?hr2; case hy2 => (intro w hSw; (try dsimp only at hSw); have k0 := (hSw.cell (p := ⟨W.heap.size, 0, none⟩) HP.out.lt).trans p0; clear hSw; go_simp; try with_reducible rfl))
          simp only [Act.put, List.getElem_toArray, List.getElem_cons_succ, List.getElem_cons_zero, List.setIfInBounds_toArray, List.set_cons_zero, List.set_cons_succ]
          (refine wpAnyH_take (i := 2) (v := ?hv3) rfl (by kernel_rfl) (by kernel_rfl) (by kernel_rfl) (fun _ _ _ h => h) (Or.inl ⟨by kernel_rfl, ?hy3⟩) hHeld ?hr3; case hy3 => (intro w hSw; (try dsimp only at hSw); go_simp; try with_reducible rfl))
          simp only [Act.put, List.getElem_toArray, List.getElem_cons_succ, List.getElem_cons_zero, List.setIfInBounds_toArray, List.set_cons_zero, List.set_cons_succ]
          (refine wpAnyH_take (i := 3) (v := ?hv4) rfl (by kernel_rfl) (by kernel_rfl) (by kernel_rfl) (fun _ _ _ h => h) (Or.inl ⟨by kernel_rfl, ?hy4⟩) hHeld ?hr4; case hy4 => (intro w hSw; (try dsimp only at hSw); go_simp; try with_reducible rfl))
          simp only [Act.put, List.getElem_toArray, List.getElem_cons_succ, List.getElem_cons_zero, List.setIfInBounds_toArray, List.set_cons_zero, List.set_cons_succ]
          (refine wpAnyH_take (i := 4) (v := ?hv5) rfl (by kernel_rfl) (by kernel_rfl) (by kernel_rfl) (fun _ _ _ h => h) (Or.inl ⟨by kernel_rfl, ?hy5⟩) hHeld ?hr5; case hy5 => (intro w hSw; (try dsimp only at hSw); have k0 := (hSw.cell (p := ⟨g, o + k, none⟩) hgl).trans e0; clear hSw; go_simp; try with_reducible rfl))
          simp only [Act.put, List.getElem_toArray, List.getElem_cons_succ, List.getElem_cons_zero, List.setIfInBounds_toArray, List.set_cons_zero, List.set_cons_succ]
          (refine wpAnyH_take (i := 5) (v := ?hv6) rfl (by kernel_rfl) (by kernel_rfl) (by kernel_rfl) (fun _ _ _ h => h) (Or.inl ⟨by kernel_rfl, ?hy6⟩) hHeld ?hr6; case hy6 => (intro w hSw; (try dsimp only at hSw); have k0 := (hSw.cell (p := ⟨W.heap.size + 1, 0, none⟩) HBB.out.lt).trans u0; have k1 := (hSw.cell (p := ⟨W.heap.size + 1, 1, none⟩) HBB.out.lt).trans u1; clear hSw; go_simp; try with_reducible rfl))
          simp only [Act.put, List.getElem_toArray, List.getElem_cons_succ, List.getElem_cons_zero, List.setIfInBounds_toArray, List.set_cons_zero, List.set_cons_succ]
          refine wpAnyH_ready (rs := [6]) (by kernel_rfl) (by simp) ?_
          refine AllReadyH.cons rfl (fun K hK => ?_) AllReadyH.nil
          go_simp
          go_at_call 100
          refine (cleared_spec (rd_mv R_Label_ok HX.out hHeld)).mono ?_
          intro e w9 h
          obtain ⟨z, rfl, hz, hb⟩ := resB_elim h
          have HZZ := Lib.hid hz
          clear h hz
          refine hK.out _ _ (hHeld.trans (hb.mono hHeld.size)) (fun hHeld => ?_)
          clear hK K hb
          try simp only [Act.put, List.getElem_toArray, List.getElem_cons_succ, List.getElem_cons_zero, List.setIfInBounds_toArray, List.set_cons_zero, List.set_cons_succ]
          refine wpAnyH_done (by kernel_rfl) ?_ _
          have HF := Lib.hid hHeld
          clear hHeld
          have HW3 := Lib.hid (HW.out.trans (HF.out.mono hsz))
          have HP3 := Lib.hid (HP.out.call HF.out)
          have HBB3 := Lib.hid (HBB.out.call HF.out)
          have HR3 := Lib.hid (HR.out.call HF.out)
          have HJ3 := Lib.hid (HJ.out.call HF.out)
          clear HF
          cases z with
          | false =>
            have HC2 := Lib.hid (show cntC (C.take (k + 1)) l s = cntC (C.take k) l s from by rw [HS.out, if_neg (fun h => by have := HZZ.out.2 h; cases this)]; rfl)
            go_wp2
            go_roundw
            case rel => exact ⟨k + 1, by omega, by go_num, by rw [HC2.out], HW3.out, HP3, HBB3, HR3, HJ3⟩
            case measure => simp [intOf]; omega
          | true =>
            have HC2 := Lib.hid (show cntC (C.take (k + 1)) l s = cntC (C.take k) l s + 1 from by rw [HS.out, if_pos (HZZ.out.1 rfl)])
            go_wp2
            go_roundw
            case rel => exact ⟨k + 1, by omega, by go_num, by rw [HC2.out]; go_num, HW3.out, HP3, HBB3, HR3, HJ3⟩
            case measure => simp [intOf]; omega
        · have hdl : decide ((k : Int) < (C.length : Int)) = false := decide_eq_false (by omega)
          have HCN := Lib.hid (show cntC (C.take k) l s = cntC C l s from by rw [List.take_of_length_le (by omega)])
          rw [HCN.out]
          obtain ⟨nC, hnC⟩ : ∃ n, cntC C l s = n := ⟨_, rfl⟩
          have HNC := Lib.hid hnC
          rw [hnC]
          clear hnC HCN
          obtain ⟨m, hm⟩ : ∃ m, cnt L l s = m := ⟨_, rfl⟩
          have HM := Lib.hid hm
          have hml : m ≤ L.length := hm ▸ cnt_le L l s
          clear hm
          clear p0 p1 u0 u1 hB
          have qP_0 := HP.out.at_ 0 rfl
          have qP_1 := HP.out.at_ 1 rfl
          have qP_2 := HP.out.at_ 2 rfl
          have qB_0 := HBB.out.at_ 0 rfl
          have qB_1 := HBB.out.at_ 1 rfl
          go_wp2_with fail
          refine (many_spec rfl HM.out ((HL.out.below R_Job_ok HW.out).more R_Job_ok HW.out.size)).mono ?_
          intro e w51 h
          obtain ⟨rfl, hb⟩ := isI_elim h
          clear qP_0 qP_1 qP_2 qB_0 qB_1
          have P_51 := Lib.hid (HP.out.call hb)
          have B_51 := Lib.hid (HBB.out.call hb)
          have R_51 := Lib.hid (HR.out.call hb)
          have J_51 := Lib.hid (HJ.out.call hb)
          have HB51 := Lib.hid (HW.out.trans ((hb).mono HW.out.size))
          clear HP HBB HR HJ HW
          clear h hb
          have hwm : IntKind.i64.wrap ((m : Int) + 1) = (m : Int) + 1 := IntWalk.i64_in _ (by omega)
          have qJJ_0 := J_51.out.at_ 0 rfl
          have qJJ_1 := J_51.out.at_ 1 rfl
          have qJJ_2 := J_51.out.at_ 2 rfl
          have qJJ_3 := J_51.out.at_ 3 rfl
          have qJJ_4 := J_51.out.at_ 4 rfl
          have qJJ_5 := J_51.out.at_ 5 rfl
          have qJJ_6 := J_51.out.at_ 6 rfl
          have qJJ_7 := J_51.out.at_ 7 rfl
          have qJJ_8 := J_51.out.at_ 8 rfl
          have sJJ_0 := J_51.out.soft 0
          have sJJ_1 := J_51.out.soft 1
          have sJJ_2 := J_51.out.soft 2
          have sJJ_3 := J_51.out.soft 3
          have sJJ_4 := J_51.out.soft 4
          have sJJ_5 := J_51.out.soft 5
          have sJJ_6 := J_51.out.soft 6
          have sJJ_7 := J_51.out.soft 7
          have sJJ_8 := J_51.out.soft 8
          have P_52 := Lib.hid (show Blk (w51.setCell ⟨W.heap.size + 1 + 1 + 1, 2, none⟩ (.int .i64 ((m : Int) + 1))) W.heap.size _ _ from P_51.out.far (b := W.heap.size + 1 + 1 + 1) (by omega) (.int .i64 ((m : Int) + 1)))
          have B_52 := Lib.hid (show Blk (w51.setCell ⟨W.heap.size + 1 + 1 + 1, 2, none⟩ (.int .i64 ((m : Int) + 1))) (W.heap.size + 1) _ _ from B_51.out.far (b := W.heap.size + 1 + 1 + 1) (by omega) (.int .i64 ((m : Int) + 1)))
          have R_52 := Lib.hid (show Blk (w51.setCell ⟨W.heap.size + 1 + 1 + 1, 2, none⟩ (.int .i64 ((m : Int) + 1))) (W.heap.size + 1 + 1) _ _ from R_51.out.far (b := W.heap.size + 1 + 1 + 1) (by omega) (.int .i64 ((m : Int) + 1)))
          have J_52 := Lib.hid (show Blk (w51.setCell ⟨W.heap.size + 1 + 1 + 1, 2, none⟩ (.int .i64 ((m : Int) + 1))) (W.heap.size + 1 + 1 + 1) 45 #[.int .i64 l, .int .i64 s, .int .i64 ((m : Int) + 1), .int .i64 need, .int .i64 long, .int .i64 prio, .int .i64 1, .int .i64 0, .slice none 0 0] from (J_51.out.set 2 (.int .i64 ((m : Int) + 1))).as rfl)
          have HB52 := Lib.hid (HB51.out.setCell (p := ⟨W.heap.size + 1 + 1 + 1, 2, none⟩) (by show W.heap.size ≤ W.heap.size + 1 + 1 + 1; omega) (.int .i64 ((m : Int) + 1)))
          have qJ_0 := J_52.out.at_ 0 rfl
          have qJ_1 := J_52.out.at_ 1 rfl
          have qJ_2 := J_52.out.at_ 2 rfl
          have qJ_3 := J_52.out.at_ 3 rfl
          have qJ_4 := J_52.out.at_ 4 rfl
          have qJ_5 := J_52.out.at_ 5 rfl
          have qJ_6 := J_52.out.at_ 6 rfl
          have qJ_7 := J_52.out.at_ 7 rfl
          have qJ_8 := J_52.out.at_ 8 rfl
          have hPJ : ¬ ¬ (PoolR C L now ∧ JobR l s 1 need long prio 1 0 []) := fun h => h HPJ.out
          by_cases h1 : (nC : Int) < need
          · have hd1 : decide ((nC : Int) < need) = true := decide_eq_true h1
            have HN := Lib.hid (show subD C L now l s need long prio = illD 11 from by unfold subD; rw [if_neg hPJ, if_pos (by rw [HNC.out]; exact h1)])
            go_wp2_with fail
            refine (ill_spec 11 _).mono ?_
            intro e w53 h
            have h0 := h
            obtain ⟨rfl, hb⟩ := h0
            clear qJ_0 qJ_1 qJ_2 qJ_3 qJ_4 qJ_5 qJ_6 qJ_7 qJ_8 qJJ_0 qJJ_1 qJJ_2 qJJ_3 qJJ_4 qJJ_5 qJJ_6 qJJ_7 qJJ_8 sJJ_0 sJJ_1 sJJ_2 sJJ_3 sJJ_4 sJJ_5 sJJ_6 sJJ_7 sJJ_8
            have P_53 := Lib.hid (P_52.out.call hb)
            have B_53 := Lib.hid (B_52.out.call hb)
            have R_53 := Lib.hid (R_52.out.call hb)
            have J_53 := Lib.hid (J_52.out.call hb)
            have HB53 := Lib.hid (HB52.out.trans ((hb).mono HB52.out.size))
            clear P_52 B_52 R_52 J_52 HB52
            clear h hb
            have qR_0 := R_53.out.at_ 0 rfl
            have qR_1 := R_53.out.at_ 1 rfl
            have qR_2 := R_53.out.at_ 2 rfl
            have qR_3 := R_53.out.at_ 3 rfl
            have qR_4 := R_53.out.at_ 4 rfl
            have sR_0 := R_53.out.soft 0
            have sR_1 := R_53.out.soft 1
            have sR_2 := R_53.out.soft 2
            have sR_3 := R_53.out.soft 3
            have sR_4 := R_53.out.soft 4
            go_wp2
            refine bodyPost_ret (v := .agg #[.slice none 0 0, .slice none 0 0, .int .i64 0, .int .i64 0, .int .i64 11]) (by simp [results, Try.results51, go_sem, *]) rfl ?_
            rw [HN.out]
            exact illO 11 (((((HB53.out.setCell (p := ⟨W.heap.size + 1 + 1, 0, none⟩) (by show W.heap.size ≤ W.heap.size + 1 + 1; omega) (.slice none 0 0)).setCell (p := ⟨W.heap.size + 1 + 1, 1, none⟩) (by show W.heap.size ≤ W.heap.size + 1 + 1; omega) (.slice none 0 0)).setCell (p := ⟨W.heap.size + 1 + 1, 2, none⟩) (by show W.heap.size ≤ W.heap.size + 1 + 1; omega) (.int .i64 0)).setCell (p := ⟨W.heap.size + 1 + 1, 3, none⟩) (by show W.heap.size ≤ W.heap.size + 1 + 1; omega) (.int .i64 0)).setCell (p := ⟨W.heap.size + 1 + 1, 4, none⟩) (by show W.heap.size ≤ W.heap.size + 1 + 1; omega) (.int .i64 11))
          have hd1 : decide ((nC : Int) < need) = false := decide_eq_false h1
          by_cases h2 : 3 < (m : Int) + 1
          · have hd2 : decide (3 < (m : Int) + 1) = true := decide_eq_true h2
            have HN := Lib.hid (show subD C L now l s need long prio = illD 9 from by unfold subD; rw [if_neg hPJ, if_neg (by rw [HNC.out]; exact h1), if_pos (by rw [HM.out]; exact h2)])
            go_wp2_with fail
            refine (ill_spec 9 _).mono ?_
            intro e w53 h
            have h0 := h
            obtain ⟨rfl, hb⟩ := h0
            clear qJ_0 qJ_1 qJ_2 qJ_3 qJ_4 qJ_5 qJ_6 qJ_7 qJ_8 qJJ_0 qJJ_1 qJJ_2 qJJ_3 qJJ_4 qJJ_5 qJJ_6 qJJ_7 qJJ_8 sJJ_0 sJJ_1 sJJ_2 sJJ_3 sJJ_4 sJJ_5 sJJ_6 sJJ_7 sJJ_8
            have P_53 := Lib.hid (P_52.out.call hb)
            have B_53 := Lib.hid (B_52.out.call hb)
            have R_53 := Lib.hid (R_52.out.call hb)
            have J_53 := Lib.hid (J_52.out.call hb)
            have HB53 := Lib.hid (HB52.out.trans ((hb).mono HB52.out.size))
            clear P_52 B_52 R_52 J_52 HB52
            clear h hb
            have qR_0 := R_53.out.at_ 0 rfl
            have qR_1 := R_53.out.at_ 1 rfl
            have qR_2 := R_53.out.at_ 2 rfl
            have qR_3 := R_53.out.at_ 3 rfl
            have qR_4 := R_53.out.at_ 4 rfl
            have sR_0 := R_53.out.soft 0
            have sR_1 := R_53.out.soft 1
            have sR_2 := R_53.out.soft 2
            have sR_3 := R_53.out.soft 3
            have sR_4 := R_53.out.soft 4
            go_wp2
            refine bodyPost_ret (v := .agg #[.slice none 0 0, .slice none 0 0, .int .i64 0, .int .i64 0, .int .i64 9]) (by simp [results, Try.results51, go_sem, *]) rfl ?_
            rw [HN.out]
            exact illO 9 (((((HB53.out.setCell (p := ⟨W.heap.size + 1 + 1, 0, none⟩) (by show W.heap.size ≤ W.heap.size + 1 + 1; omega) (.slice none 0 0)).setCell (p := ⟨W.heap.size + 1 + 1, 1, none⟩) (by show W.heap.size ≤ W.heap.size + 1 + 1; omega) (.slice none 0 0)).setCell (p := ⟨W.heap.size + 1 + 1, 2, none⟩) (by show W.heap.size ≤ W.heap.size + 1 + 1; omega) (.int .i64 0)).setCell (p := ⟨W.heap.size + 1 + 1, 3, none⟩) (by show W.heap.size ≤ W.heap.size + 1 + 1; omega) (.int .i64 0)).setCell (p := ⟨W.heap.size + 1 + 1, 4, none⟩) (by show W.heap.size ≤ W.heap.size + 1 + 1; omega) (.int .i64 9))
          have hd2 : decide (3 < (m : Int) + 1) = false := decide_eq_false h2
          have HN := Lib.hid (show subD C L now l s need long prio = (C, L ++ [((l, s), (m : Int) + 1, need, long, prio, 1, 0, [])], now, (m : Int) + 1, 0) from by unfold subD subJ; rw [if_neg hPJ, if_neg (by rw [HNC.out]; exact h1), if_neg (by rw [HM.out]; exact h2), HM.out])
          have qP_0 := P_52.out.at_ 0 rfl
          have qP_1 := P_52.out.at_ 1 rfl
          have qP_2 := P_52.out.at_ 2 rfl
          have HLJ := Lib.hid (J_52.out.lt)
          go_wp2_with fail
          refine (copy_pool HZC.out HZL.out ((HC.out.below (Sl_ok R_Label_ok) HB52.out).more (Sl_ok R_Label_ok) HB52.out.size) ((HL.out.below R_Job_ok HB52.out).more R_Job_ok HB52.out.size)).mono ?_
          intro e w53 h
          have h0 := h
          obtain ⟨ca', cc', ja', jc', l1, g1, l2, g2, xs, Sf, ys, Sg, rfl, ha1, ha2, hl1, hl2, hl3, hl4, hb⟩ := h0
          clear qJ_0 qJ_1 qJ_2 qJ_3 qJ_4 qJ_5 qJ_6 qJ_7 qJ_8 qP_0 qP_1 qP_2 qJJ_0 qJJ_1 qJJ_2 qJJ_3 qJJ_4 qJJ_5 qJJ_6 qJJ_7 qJJ_8 sJJ_0 sJJ_1 sJJ_2 sJJ_3 sJJ_4 sJJ_5 sJJ_6 sJJ_7 sJJ_8
          have P_53 := Lib.hid (P_52.out.call hb)
          have B_53 := Lib.hid (B_52.out.call hb)
          have R_53 := Lib.hid (R_52.out.call hb)
          have J_53 := Lib.hid (J_52.out.call hb)
          have HB53 := Lib.hid (HB52.out.trans ((hb).mono HB52.out.size))
          clear P_52 B_52 R_52 J_52 HB52
          have HO1 := Lib.hid ha1
          have HO2 := Lib.hid ha2
          clear ha1 ha2
          clear h hb
          have hlj : W.heap.size + 1 + 1 + 1 < (w51.setCell ⟨W.heap.size + 1 + 1 + 1, 2, none⟩ (.int .i64 ((m : Int) + 1))).heap.size := HLJ.out
          have hc2 := HO2.out.le
          have hc1 := HO1.out.le
          have hbA : Below (w53).heap.size (w53) (w53.alloc (.cells #[.slice ca' C.length cc', .slice ja' L.length jc', .int .i64 now] 65)) := (Below.refl _ _).alloc (Nat.le_refl _) _
          have P_54 := Lib.hid (P_53.out.call hbA)
          have B_54 := Lib.hid (B_53.out.call hbA)
          have R_54 := Lib.hid (R_53.out.call hbA)
          have J_54 := Lib.hid (J_53.out.call hbA)
          have HB54 := Lib.hid (HB53.out.trans ((hbA).mono HB53.out.size))
          clear P_53 B_53 R_53 J_53 HB53
          have T_54 := Blk.new (w53) 65 #[.slice ca' C.length cc', .slice ja' L.length jc', .int .i64 now]
          have Th_54 := Lib.hid T_54
          clear T_54 hbA
          have hT : Below w53.heap.size w53 (w53.alloc (.cells #[.slice ca' C.length cc', .slice ja' L.length jc', .int .i64 now] 65)) := (Below.refl _ _).alloc (Nat.le_refl _) _
          have hA : Below (w53.alloc (.cells #[.slice ca' C.length cc', .slice ja' L.length jc', .int .i64 now] 65)).heap.size (w53.alloc (.cells #[.slice ca' C.length cc', .slice ja' L.length jc', .int .i64 now] 65)) ((w53.alloc (.cells #[.slice ca' C.length cc', .slice ja' L.length jc', .int .i64 now] 65)).alloc (.cells #[.int .i64 l, .int .i64 s, .int .i64 ((m : Int) + 1), .int .i64 need, .int .i64 long, .int .i64 prio, .int .i64 1, .int .i64 0, .slice none 0 0] 45)) := (Below.refl _ _).alloc (Nat.le_refl _) _
          have hrow := Blk.new (w53.alloc (.cells #[.slice ca' C.length cc', .slice ja' L.length jc', .int .i64 now] 65)) 45 #[.int .i64 l, .int .i64 s, .int .i64 ((m : Int) + 1), .int .i64 need, .int .i64 long, .int .i64 prio, .int .i64 1, .int .i64 0, .slice none 0 0]
          have ha3 := (HO2.out.call R_Job_ok hT).call R_Job_ok hA
          obtain ⟨iJ, hiJ, hzJ, hsJ, hbJ⟩ := m_infoJob
          obtain ⟨v', w62, ys', Sg', hr9, hA4, hg4, hob, hsg⟩ := ha3.app2 (P := Try.prog) (ty := 48) (c := 1) R_Job_ok Try.underlying48 hiJ hzJ hsJ hbJ rfl (by decide) (x := ((l, s), (m : Int) + 1, need, long, prio, 1, 0, [])) (us := [.int .i64 l, .int .i64 s, .int .i64 ((m : Int) + 1), .int .i64 need, .int .i64 long, .int .i64 prio, .int .i64 1, .int .i64 0, .slice none 0 0]) (Sx := fun _ => False) (blk := (w53.alloc (.cells #[.slice ca' C.length cc', .slice ja' L.length jc', .int .i64 now] 65)).heap.size) (fun p y hp => hrow.at_ p (by simpa using hp)) (mkow_Job (T0 := fun _ => False) (fun k h => h.elim) (own_none I _)) (fun p hp => hp.elim) hl4 (by unfold maxLen; omega) (by omega)
          obtain ⟨a6, c6, n6, hn6, rfl⟩ : ∃ a c n, n = (L ++ [((l, s), (m : Int) + 1, need, long, prio, 1, 0, [])]).length ∧ v' = .slice a n c := by
            obtain ⟨a, c, e⟩ := hA4.isSlice
            exact ⟨a, c, _, rfl, e⟩
          simp only [World.size_alloc] at hr9
          have HR9 := Lib.hid hr9
          have hb61 : Below w53.heap.size w53 ((w53.alloc (.cells #[.slice ca' C.length cc', .slice ja' L.length jc', .int .i64 now] 65)).alloc (.cells #[.int .i64 l, .int .i64 s, .int .i64 ((m : Int) + 1), .int .i64 need, .int .i64 long, .int .i64 prio, .int .i64 1, .int .i64 0, .slice none 0 0] 45)) := hT.trans (hA.mono hT.size)
          have hs61 := hb61.size
          have hs62 := hg4.size
          have hown : ∀ p, (Value.slice ja' L.length jc').ownBlock = some p → l2 ≤ p ∧ p < g2 := fun p hp => HO2.out.blk p hp
          have hw61 : ((w53.alloc (.cells #[.slice ca' C.length cc', .slice ja' L.length jc', .int .i64 now] 65)).alloc (.cells #[.int .i64 l, .int .i64 s, .int .i64 ((m : Int) + 1), .int .i64 need, .int .i64 long, .int .i64 prio, .int .i64 1, .int .i64 0, .slice none 0 0] 45)).heap.size = w53.heap.size + 2 := by simp
          have qJ_0 := J_54.out.at_ 0 rfl
          have qJ_1 := J_54.out.at_ 1 rfl
          have qJ_2 := J_54.out.at_ 2 rfl
          have qJ_3 := J_54.out.at_ 3 rfl
          have qJ_4 := J_54.out.at_ 4 rfl
          have qJ_5 := J_54.out.at_ 5 rfl
          have qJ_6 := J_54.out.at_ 6 rfl
          have qJ_7 := J_54.out.at_ 7 rfl
          have qJ_8 := J_54.out.at_ 8 rfl
          have qT_0 := Th_54.out.at_ 0 rfl
          have qT_1 := Th_54.out.at_ 1 rfl
          have qT_2 := Th_54.out.at_ 2 rfl
          have P_62 := Lib.hid (show Blk w62 W.heap.size _ _ from (hg4.block (W.heap.size) ((P_54.out.call hA).lt) (fun e => by have := (hown _ e.symm).1; omega)).trans (P_54.out.call hA))
          have B_62 := Lib.hid (show Blk w62 (W.heap.size + 1) _ _ from (hg4.block (W.heap.size + 1) ((B_54.out.call hA).lt) (fun e => by have := (hown _ e.symm).1; omega)).trans (B_54.out.call hA))
          have R_62 := Lib.hid (show Blk w62 (W.heap.size + 1 + 1) _ _ from (hg4.block (W.heap.size + 1 + 1) ((R_54.out.call hA).lt) (fun e => by have := (hown _ e.symm).1; omega)).trans (R_54.out.call hA))
          have J_62 := Lib.hid (show Blk w62 (W.heap.size + 1 + 1 + 1) _ _ from (hg4.block (W.heap.size + 1 + 1 + 1) ((J_54.out.call hA).lt) (fun e => by have := (hown _ e.symm).1; omega)).trans (J_54.out.call hA))
          have T_62 := Lib.hid (show Blk w62 w53.heap.size 65 #[.slice ca' C.length cc', .slice ja' L.length jc', .int .i64 now] from (hg4.block (w53.heap.size) ((Th_54.out.call hA).lt) (fun e => by have := (hown _ e.symm).2; omega)).trans (Th_54.out.call hA))
          have hb62 : Below W.heap.size W w62 := (HB54.out.trans (hA.mono HB54.out.size)).trans (below_own hg4 (fun p hp => by have := (hown p hp).1; omega) (by omega))
          have P_63 := Lib.hid (show Blk (w62.setCell ⟨w53.heap.size, 1, none⟩ (.slice a6 n6 c6)) W.heap.size _ _ from P_62.out.far (b := w53.heap.size) (by omega) (.slice a6 n6 c6))
          have B_63 := Lib.hid (show Blk (w62.setCell ⟨w53.heap.size, 1, none⟩ (.slice a6 n6 c6)) (W.heap.size + 1) _ _ from B_62.out.far (b := w53.heap.size) (by omega) (.slice a6 n6 c6))
          have R_63 := Lib.hid (show Blk (w62.setCell ⟨w53.heap.size, 1, none⟩ (.slice a6 n6 c6)) (W.heap.size + 1 + 1) _ _ from R_62.out.far (b := w53.heap.size) (by omega) (.slice a6 n6 c6))
          have J_63 := Lib.hid (show Blk (w62.setCell ⟨w53.heap.size, 1, none⟩ (.slice a6 n6 c6)) (W.heap.size + 1 + 1 + 1) _ _ from J_62.out.far (b := w53.heap.size) (by omega) (.slice a6 n6 c6))
          have T_63 := Lib.hid (show Blk (w62.setCell ⟨w53.heap.size, 1, none⟩ (.slice a6 n6 c6)) w53.heap.size 65 #[.slice ca' C.length cc', .slice a6 n6 c6, .int .i64 now] from (T_62.out.set 1 (.slice a6 n6 c6)).as rfl)
          have HB63 := Lib.hid (hb62.setCell (p := ⟨w53.heap.size, 1, none⟩) (by show W.heap.size ≤ w53.heap.size; omega) (.slice a6 n6 c6))
          have HC4 := Lib.hid ((((HO1.out.call (Sl_ok R_Label_ok) hb61).mv (w' := w62) (Sl_ok R_Label_ok) hs62 (fun p hp hp2 => hg4.block p (by omega) (fun e => by have := (hown p e.symm).1; omega))).mv (w' := (w62.setCell ⟨w53.heap.size, 1, none⟩ (.slice a6 n6 c6))) (Sl_ok R_Label_ok) (by simp [World.setCell]) (fun p hp hp2 => Below.heap_setCell w62 ⟨w53.heap.size, 1, none⟩ _ p (by show p ≠ w53.heap.size; omega))))
          have HJ4 := Lib.hid (hA4.mv2 (w' := (w62.setCell ⟨w53.heap.size, 1, none⟩ (.slice a6 n6 c6))) R_Job_ok (by simp [World.setCell]) (fun p hp => Below.heap_setCell w62 ⟨w53.heap.size, 1, none⟩ _ p (by show p ≠ w53.heap.size; rcases hob p hp with h | h; exact (by have := (hown p h).2; omega); exact (by omega))) (fun i p hp => Below.heap_setCell w62 ⟨w53.heap.size, 1, none⟩ _ p (by show p ≠ w53.heap.size; rcases hsg i p hp with h | h; exact (by have := (HO2.out.sub i p h).2.1; omega); exact h.elim)))
          have t62_0 := T_62.out.at_ 0 rfl
          have t63_0 := T_63.out.at_ 0 rfl
          have t62_1 := T_62.out.at_ 1 rfl
          have t63_1 := T_63.out.at_ 1 rfl
          have t62_2 := T_62.out.at_ 2 rfl
          have t63_2 := T_63.out.at_ 2 rfl
          have s62 := T_62.out.soft 1
          have j63 := J_63.out.at_ 2 rfl
          have r63_0 := R_63.out.at_ 0 rfl
          have f63_0 := R_63.out.soft 0
          have r63_1 := R_63.out.at_ 1 rfl
          have f63_1 := R_63.out.soft 1
          have r63_2 := R_63.out.at_ 2 rfl
          have f63_2 := R_63.out.soft 2
          have r63_3 := R_63.out.at_ 3 rfl
          have f63_3 := R_63.out.soft 3
          have r63_4 := R_63.out.at_ 4 rfl
          have f63_4 := R_63.out.soft 4
          have HN6 := Lib.hid hn6
          clear hn6
          clear hb62 hA4 hg4 hob hsg hown hrow ha3 hiJ hzJ hsJ hbJ hr9
          have j62 := J_62.out.at_ 2 rfl
          have r62_0 := R_62.out.at_ 0 rfl
          have g62_0 := R_62.out.soft 0
          have r62_1 := R_62.out.at_ 1 rfl
          have g62_1 := R_62.out.soft 1
          have r62_2 := R_62.out.at_ 2 rfl
          have g62_2 := R_62.out.soft 2
          have r62_3 := R_62.out.at_ 3 rfl
          have g62_3 := R_62.out.soft 3
          have r62_4 := R_62.out.at_ 4 rfl
          have g62_4 := R_62.out.soft 4
          go_wp2_with (at_builtin; refine wpList_app rfl (.tmp 64) (.tmp 66) 48 rfl rfl rfl HR9.out ?_)
          have hoff := ((((((Off.refl (fun x => x = W.heap.size + 1 + 1) (w62.setCell ⟨w53.heap.size, 1, none⟩ (.slice a6 n6 c6))).setCell (p := ⟨W.heap.size + 1 + 1, 0, none⟩) rfl (.slice ca' C.length cc')).setCell (p := ⟨W.heap.size + 1 + 1, 1, none⟩) rfl (.slice a6 n6 c6)).setCell (p := ⟨W.heap.size + 1 + 1, 2, none⟩) rfl (.int .i64 now)).setCell (p := ⟨W.heap.size + 1 + 1, 3, none⟩) rfl (.int .i64 ((m : Int) + 1))).setCell (p := ⟨W.heap.size + 1 + 1, 4, none⟩) rfl (.int .i64 0))
          have hsf := hoff.size
          have hz63 : (w62.setCell ⟨w53.heap.size, 1, none⟩ (.slice a6 n6 c6)).heap.size = w62.heap.size := by simp [World.setCell]
          have hz0 := HB54.out.size
          refine bodyPost_ret (v := .agg #[.slice ca' C.length cc', .slice a6 n6 c6, .int .i64 now, .int .i64 ((m : Int) + 1), .int .i64 0]) (by simp [results, Try.results51, go_sem, *]) rfl ?_
          rw [HN.out]
          have hn6 := HN6.out
          clear HN6
          subst hn6
          exact ⟨ca', cc', a6, c6, l1, g1, l2, w62.heap.size, _, _, _, _, rfl, HC4.out.mv (Sl_ok R_Label_ok) hsf (fun p hp hp2 => hoff.block p (by omega) (by omega)), HJ4.out.mv R_Job_ok hsf (fun p hp hp2 => hoff.block p (by omega) (by omega)), by omega, hl2, hl3, by omega, (((((HB63.out.setCell (p := ⟨W.heap.size + 1 + 1, 0, none⟩) (by show W.heap.size ≤ W.heap.size + 1 + 1; omega) (_)).setCell (p := ⟨W.heap.size + 1 + 1, 1, none⟩) (by show W.heap.size ≤ W.heap.size + 1 + 1; omega) (_)).setCell (p := ⟨W.heap.size + 1 + 1, 2, none⟩) (by show W.heap.size ≤ W.heap.size + 1 + 1; omega) (_)).setCell (p := ⟨W.heap.size + 1 + 1, 3, none⟩) (by show W.heap.size ≤ W.heap.size + 1 + 1; omega) (_)).setCell (p := ⟨W.heap.size + 1 + 1, 4, none⟩) (by show W.heap.size ≤ W.heap.size + 1 + 1; omega) (_))⟩
end Go.Proofs.Ytjpkeofpcpaoaaa.RepC
