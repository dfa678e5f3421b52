/- Of this claim's texts the part 28: MlVp MlVj CfGv MlGv. -/
import Derived.Test.YtlgflddljhldhaaGreatPU23
import Derived.Test.YtlgflddljhldhaaGreatPU27
section
namespace Go.Proofs.YtlgflddljhldhaaGreat.RepC
open Go.RowKit RowC ValC SpanC KeptC CfC
set_option linter.unusedVariables false
set_option linter.unusedSimpArgs false
def numsN (L : List D_Note) (j : Nat) : List Int := (L.length : Int) :: (L.take j).flatMap fun x => [x.1, x.2]
theorem numsN_zero (L : List D_Note) : numsN L 0 = [(L.length : Int)] := rfl
theorem numsN_step {L : List D_Note} {j : Nat} {x : D_Note} (hx : L[j]? = some x) : numsN L (j + 1) = numsN L j ++ [x.1, x.2] := by
  unfold numsN
  rw [List.take_add_one, hx, Option.toList_some, List.flatMap_append]
  simp
theorem numsN_len {L : List D_Note} {j : Nat} (hj : j ≤ L.length) : (numsN L j).length = 1 + 2 * j := by
  induction j with
  | zero => rfl
  | succ j ih =>
    obtain ⟨x, hx⟩ := el_some (show j < L.length by omega)
    rw [numsN_step hx, List.length_append, ih (by omega)]
    show 1 + 2 * j + 2 = _
    omega
theorem numsN_cat (L : List D_Note) : ∀ j, j ≤ L.length → catL (numsN L j) = PutM.encB (L.length : Int) ++ catTo noteB L j
  | 0, _ => by rw [catTo_zero, numsN_zero]; simp only [catL]
  | j + 1, hj => by
    obtain ⟨x, hx⟩ := el_some (show j < L.length by omega)
    rw [numsN_step hx, catL_app, numsN_cat L j (by omega), catTo_step hx]
    show _ ++ (PutM.encB x.1 ++ (PutM.encB x.2 ++ ⟨#[]⟩)) = _
    rw [ba_nil]
    unfold noteB
    simp only [ByteArray.append_assoc]
theorem numsN_R {L : List D_Note} (h12 : L.length ≤ 12) (hR : ∀ x ∈ L, BdN x) (j : Nat) : ∀ n ∈ numsN L j, i64R n := fun n hn => by
  rcases List.mem_cons.1 hn with e | e
  · subst e; exact ⟨by omega, by omega⟩
  · obtain ⟨x, hx, hn⟩ := List.mem_flatMap.1 e
    have h := hR x (List.mem_of_mem_take hx)
    simp at hn
    rcases hn with e | e
    · rw [e]; exact h.1
    · rw [e]; exact h.2
theorem rd_twoI {w : World} {g : Nat} (x y : Int) (h : Blk w g 2 #[.int .i64 x, .int .i64 y]) : RdSl I w w.heap.size [x, y] (some ⟨g, 0, none⟩) 2 := by
  refine ⟨Nat.le_refl _, by unfold maxLen; omega, fun _ => ⟨g, 0, rfl, h.lt, fun i z hz => ?_⟩⟩
  match i, hz with
  | 0, hz => simp at hz; subst hz; exact ⟨[.int .i64 x], fun j c hj => by match j, hj with | 0, hj => simp at hj; subst hj; exact h.at_ 0 rfl | j + 1, hj => simp at hj, rfl⟩
  | 1, hz => simp at hz; subst hz; exact ⟨[.int .i64 y], fun j c hj => by match j, hj with | 0, hj => simp at hj; subst hj; exact h.at_ 1 rfl | j + 1, hj => simp at hj, rfl⟩
  | i + 2, hz => simp at hz
theorem IRow.one {w : World} (x : Int) : IRow (w.alloc (.cells #[.int .i64 x] 2)) w.heap.size (.slice (some ⟨w.heap.size, 0, none⟩) 1 1) [x] :=
  ⟨⟨by simp [show I.size = 1 from rfl], .inr ⟨w.heap.size, 1, #[.int .i64 x], rfl, Nat.le_refl _, heap_alloc_new w _, Nat.le_refl _, by unfold maxLen; omega, by rfl, by simp [show I.size = 1 from rfl]⟩⟩, fun k hk => by cases hk; exact ⟨Nat.le_refl _, by simp⟩⟩
set_option maxRecDepth 100000 in
set_option maxHeartbeats 3200000 in
theorem notesb_impl {L : List D_Note} {la : Option Addr} {lc : Nat} {W : World} (h12 : L.length ≤ 12) (hR : ∀ x ∈ L, BdN x) (h : RdSl R_Note W W.heap.size L la lc) :
    Calls Tryz.prog 70 #[.slice la L.length lc] W fun e w' => e = .returned (.string (PutM.encB (L.length : Int) ++ catTo noteB L L.length)) ∧ Below W.heap.size W w' := by
  have H := Lib.hid h
  have HR := Lib.hid hR
  clear h hR
  obtain ⟨w0, hw0⟩ : ∃ w, w = W.alloc (.cells #[.int .i64 (L.length : Int)] 2) := ⟨_, rfl⟩
  have HB0 := Lib.hid (show Below W.heap.size W w0 from by rw [hw0]; exact (Below.refl _ _).alloc (Nat.le_refl _) _)
  have HI0 := Lib.hid (show IRow w0 W.heap.size (.slice (some ⟨W.heap.size, 0, none⟩) 1 1) (numsN L 0) from by rw [hw0, numsN_zero]; exact IRow.one _)
  have hlt0 : W.heap.size < w0.heap.size := by rw [hw0]; simp
  go_enter Tryz.func70, Tryz.ntmps70
  go_wp2_with fail
  rw [← hw0]
  clear hw0
  go_loopw [3, 11] (fun v i wr => ∃ j : Nat, j ≤ L.length ∧ i = .int .i64 j ∧ Hid (IRow wr W.heap.size v (numsN L j)) ∧ Below W.heap.size W wr) (fun _ i _ => L.length - (intOf i).toNat)
  case atStart => exact ⟨0, Nat.zero_le _, rfl, HI0, HB0.out⟩
  case round =>
    obtain ⟨j, hj, rfl, HI, hB⟩ := hrel
    obtain ⟨wo, rfl⟩ : ∃ x, x = wr := ⟨_, rfl⟩
    have HB := Lib.hid hB
    have hsz := hB.size
    obtain ⟨va, vc, rfl⟩ := HI.out.isSlice
    by_cases hjl : j < L.length
    · have hdj : decide ((j : Int) < (L.length : Int)) = true := decide_eq_true (by omega)
      obtain ⟨⟨x0, x1⟩, hx⟩ := el_some hjl
      have HX := Lib.hid hx
      obtain ⟨g, o, us, rfl, hg, hu, hr⟩ := (rd_mv R_Note_ok H.out hB).at_ hx
      obtain rfl := rd_Note hr
      have e0 : wo.cell? ⟨g, o + j * 2, none⟩ = some (.int .i64 x0) := by simpa [size_NoteS, Nat.add_assoc] using hu 0 _ rfl
      have e1 : wo.cell? ⟨g, o + j * 2 + 1, none⟩ = some (.int .i64 x1) := by simpa [size_NoteS, Nat.add_assoc] using hu 1 _ rfl
      have hi0 : (0 : Int) ≤ (j : Int) := Int.natCast_nonneg _
      have hi1 : (j : Int) < (L.length : Int) := by omega
      obtain ⟨w1, hw1⟩ : ∃ w, w = wo.alloc (.cells #[.int .i64 x0, .int .i64 x1] 75) := ⟨_, rfl⟩
      have hb1 : Below wo.heap.size wo w1 := by rw [hw1]; exact (Below.refl _ _).alloc (Nat.le_refl _) _
      have T1 := Lib.hid (show Blk w1 wo.heap.size 75 #[.int .i64 x0, .int .i64 x1] from by rw [hw1]; exact Blk.new _ _ _)
      obtain ⟨w2, hw2⟩ : ∃ w, w = w1.alloc (.cells #[.int .i64 x0, .int .i64 x1] 2) := ⟨_, rfl⟩
      have hb2 : Below w1.heap.size w1 w2 := by rw [hw2]; exact (Below.refl _ _).alloc (Nat.le_refl _) _
      have hbk2 : Blk w2 w1.heap.size 2 #[.int .i64 x0, .int .i64 x1] := by rw [hw2]; exact Blk.new _ _ _
      have hlen := numsN_len (L := L) (j := j) hj
      obtain ⟨a', c', w3, hrun, hrow, hb3⟩ := IRow.more (FRow.call (FRow.call HI.out hb1) hb2) (rd_twoI x0 x1 hbk2) (Nat.le_trans hsz (Nat.le_trans hb1.size hb2.size)) (by rw [hlen]; show 1 + 2 * j + 2 ≤ _; omega)
      rw [← numsN_step hx] at hrun hrow
      have HRun := Lib.hid hrun
      have HRow := Lib.hid hrow
      have HB3 := Lib.hid (((HB.out.trans (hb1.mono hsz)).trans (hb2.mono (Nat.le_trans hsz hb1.size))).trans hb3)
      rw [hw2] at HRun
      clear hrun hrow hlen hb2 hb3 hbk2 hw2 hu hr hg hx hB
      go_upto_region 5 with fail
      rw [← hw1]
      clear hw1 hb1 e0 e1
      have t0 := T1.out.at_ 0 rfl
      have t1 := T1.out.at_ 1 rfl
      go_wp2_with (at_builtin; refine wpList_app rfl (.tmp 15) (.tmp 20) 70 rfl rfl rfl HRun.out ?_)
      go_roundw
      case rel => exact ⟨j + 1, by omega, by go_num, HRow, HB3.out⟩
      case measure => simp [intOf]; omega
    · have hdj : decide ((j : Int) < (L.length : Int)) = false := decide_eq_false (by omega)
      obtain rfl : j = L.length := by omega
      have HCT := Lib.hid (numsN_cat L L.length (Nat.le_refl _))
      have hlen := numsN_len (L := L) (j := L.length) (Nat.le_refl _)
      have HRR := Lib.hid (numsN_R h12 HR.out L.length)
      obtain ⟨a2, c2, he, ho⟩ := HI.out.sl I_ok flat_I
      cases he
      have HRD := Lib.hid (ho.rd I_ok (B := wo.heap.size) fun k hk => (HI.out.blk k hk).2)
      have hl25 : (numsN L L.length).length ≤ 1000000 := by rw [hlen]; omega
      clear hB ho hlen
      go_wp2_with fail
      have hpn := putnums_w hl25 HRR.out HRD.out
      rw [HCT.out] at hpn
      refine hpn.mono ?_
      rintro e w2 ⟨rfl, hb⟩
      have HB2 := Lib.hid (HB.out.trans (hb.mono hsz))
      clear hb hpn
      go_wp2
      go_ret
      exact ⟨rfl, HB2.out⟩
end Go.Proofs.YtlgflddljhldhaaGreat.RepC
end
section
namespace Go.Proofs.YtlgflddljhldhaaGreat.RepC
open Go.RowKit RowC ValC SpanC KeptC CfC
set_option linter.unusedVariables false
set_option linter.unusedSimpArgs false
set_option maxRecDepth 100000 in
set_option maxHeartbeats 6400000 in
theorem maudit_impl {C : List (List D_Label)} {P : List D_Pair} {Q : List D_Quota} {hf : Int} {ca pa qa : Option Addr} {cc pc qc : Nat} {M : List D_Box} {xa : Option Addr} {xc : Nat} {l s : Int} {W : World} (hBd : BdM M) (hC : RdSl (Sl R_Label) W W.heap.size C ca cc) (hP : RdSl R_Pair W W.heap.size P pa pc) (hQ : RdSl R_Quota W W.heap.size Q qa qc) (hX : RdSl R_Box W W.heap.size M xa xc) :
    Calls Tryz.prog 29 #[.agg #[.slice ca C.length cc, .slice pa P.length pc, .slice qa Q.length qc, .int .i64 hf], .agg #[.slice xa M.length xc], .agg #[.int .i64 l, .int .i64 s]] W fun e w' => e = .returned (.string (readM fromL logB (C, P, Q, hf) M (l, s))) ∧ Below W.heap.size W w' := by
  have hnM : M.length ≤ 9223372036854775807 := by have h1 := hX.1; have h2 := hX.2.1; unfold maxLen at h2; omega
  have hnP : P.length ≤ 9223372036854775807 := by have h1 := hP.1; have h2 := hP.2.1; unfold maxLen at h2; omega
  obtain ⟨b0, hb0⟩ : ∃ b, mailB (C, P, Q, hf) M = b := ⟨_, rfl⟩
  have Hb0 := Lib.hid hb0
  clear hb0
  have HBD := Lib.hid hBd
  clear hBd
  obtain ⟨w0, hw0⟩ : ∃ w, w = ((W.alloc (.cells #[.slice ca C.length cc, .slice pa P.length pc, .slice qa Q.length qc, .int .i64 hf] 44)).alloc (.cells #[.slice xa M.length xc] 36)).alloc (.cells #[.int .i64 l, .int .i64 s] 47) := ⟨_, rfl⟩
  have hb0 : Below W.heap.size W w0 := by rw [hw0]; exact (((Below.refl _ _).alloc (Nat.le_refl _) _).alloc (by simp) _).alloc (by simp <;> omega) _
  have x0_ : Blk w0 (W.heap.size) 44 #[.slice ca C.length cc, .slice pa P.length pc, .slice qa Q.length qc, .int .i64 hf] := by
    have h9 := Blk.new W 44 #[.slice ca C.length cc, .slice pa P.length pc, .slice qa Q.length qc, .int .i64 hf]
    try simp only [World.size_alloc] at h9
    rw [hw0]; exact ((h9.alloc _).alloc _)
  have X0 := Lib.hid x0_
  have x1_ : Blk w0 (W.heap.size + 1) 36 #[.slice xa M.length xc] := by
    have h9 := Blk.new (W.alloc (.cells #[.slice ca C.length cc, .slice pa P.length pc, .slice qa Q.length qc, .int .i64 hf] 44)) 36 #[.slice xa M.length xc]
    try simp only [World.size_alloc] at h9
    rw [hw0]; exact (h9.alloc _)
  have X1 := Lib.hid x1_
  have x2_ : Blk w0 (W.heap.size + 1 + 1) 47 #[.int .i64 l, .int .i64 s] := by
    have h9 := Blk.new ((W.alloc (.cells #[.slice ca C.length cc, .slice pa P.length pc, .slice qa Q.length qc, .int .i64 hf] 44)).alloc (.cells #[.slice xa M.length xc] 36)) 47 #[.int .i64 l, .int .i64 s]
    try simp only [World.size_alloc] at h9
    rw [hw0]; exact h9
  have X2 := Lib.hid x2_
  have HC := Lib.hid (rd_mv (Sl_ok R_Label_ok) hC hb0)
  have HP := Lib.hid (rd_mv R_Pair_ok hP hb0)
  have HQ := Lib.hid (rd_mv R_Quota_ok hQ hb0)
  have HX := Lib.hid (rd_mv R_Box_ok hX hb0)
  have HB0 := Lib.hid hb0
  have hz0 := hb0.size
  clear hb0 hC hP hQ hX x0_ x1_ x2_
  go_enter Tryz.func29, Tryz.ntmps29
  go_upto_region 1 with fail
  rw [← hw0]
  clear hw0
  have qX0_0 := X0.out.at_ 0 rfl
  have qX0_1 := X0.out.at_ 1 rfl
  have qX0_2 := X0.out.at_ 2 rfl
  have qX0_3 := X0.out.at_ 3 rfl
  have qX1_0 := X1.out.at_ 0 rfl
  have qX2_0 := X2.out.at_ 0 rfl
  have qX2_1 := X2.out.at_ 1 rfl
  go_wp2_with fail
  have hcx := mail_impl (hf := hf) HC.out HP.out HQ.out HX.out
  rw [Hb0.out] at hcx
  refine hcx.mono ?_
  intro e v1 h
  obtain ⟨rfl, hb⟩ := isB_elim h
  have HC := Lib.hid (rd_mv (Sl_ok R_Label_ok) HC.out hb)
  have HP := Lib.hid (rd_mv R_Pair_ok HP.out hb)
  have HQ := Lib.hid (rd_mv R_Quota_ok HQ.out hb)
  have HX := Lib.hid (rd_mv R_Box_ok HX.out hb)
  have X0 := Lib.hid (X0.out.call hb)
  have X1 := Lib.hid (X1.out.call hb)
  have X2 := Lib.hid (X2.out.call hb)
  have HB0 := Lib.hid (HB0.out.trans (hb.mono HB0.out.size))
  clear h hb hcx qX0_0 qX0_1 qX0_2 qX0_3 qX1_0 qX2_0 qX2_1
  cases b0 with
  | false =>
    have HE := Lib.hid (show (readM fromL logB (C, P, Q, hf) M (l, s)) = ⟨#[]⟩ from readM_no1 Hb0.out)
    go_wp2
    go_ret
    exact ⟨by rw [HE.out]; rfl, HB0.out⟩
  | true =>
  have HE := Lib.hid (show readM fromL logB (C, P, Q, hf) M (l, s) = catM mBelow fromL logB P M (l, s) P.length from readM_prog Hb0.out (fun p hp => hp.1))
  have HMP := Lib.hid (mailB_iff.1 Hb0.out)
  have hP4 : P.length ≤ 4 := pairs4 HMP.out
  have HSZ := Lib.hid (show ∀ k, k ≤ P.length → (catM mBelow fromL logB P M (l, s) k).size ≤ 1040 from fun k hk => catM_size (c := 250) (fun i b hb => logB_size (mail_here HMP.out hb).2.2 (HBD.out b (List.mem_of_getElem? hb))) k (by omega))
  obtain ⟨V, hV⟩ : ∃ V, V = v1.alloc (.cells #[.pointer none, .slice none 0 0] 104) := ⟨_, rfl⟩
  have hbV : Below v1.heap.size v1 V := by rw [hV]; exact (Below.refl _ _).alloc (Nat.le_refl _) _
  have HI : Hid (Lib.IsBuilder 104 5 v1.heap.size v1.heap.size [] V) := Lib.hid (by rw [hV]; exact (Lib.fresh_isBuilder 104 5 v1))
  have HBV := Lib.hid hbV
  have hzv := HB0.out.size
  have XV := Lib.hid (X0.out.call hbV)
  have HLX := Lib.hid (X1.out.lt)
  clear hbV
  go_upto_region 4 with fail
  rw [← hV]
  clear hV
  have q1 := XV.out.at_ 1 rfl
  go_wp2
  go_loopw [17] (fun i wr => ∃ k : Nat, k ≤ P.length ∧ i = .int .i64 k ∧ Hid (Lib.IsBuilder 104 5 v1.heap.size v1.heap.size (Lib.strCells (catM mBelow fromL logB P M (l, s) k)) wr) ∧ Below v1.heap.size v1 wr) (fun i _ => P.length - (intOf i).toNat)
  case atStart => exact ⟨0, Nat.zero_le _, rfl, HI, HBV.out⟩
  case round =>
    obtain ⟨k, hk, rfl, HBu, hB⟩ := hrel
    obtain ⟨wo, rfl⟩ : ∃ x, x = wr := ⟨_, rfl⟩
    have HB := Lib.hid hB
    have hsz := hB.size
    have hpk := HSZ.out k hk
    obtain ⟨T, hT⟩ : ∃ T, catM mBelow fromL logB P M (l, s) k = T := ⟨_, rfl⟩
    rw [hT] at hpk
    have HTT := Lib.hid hT
    rw [hT] at HBu
    clear hT
    by_cases hlt : k < P.length
    · have hdl : decide ((k : Int) < (P.length : Int)) = true := decide_eq_true (by omega)
      have hlm : k < M.length := by have := HMP.out.2.1; simp only at this; omega
      obtain ⟨⟨⟨f0, f1⟩, ⟨t0, t1⟩, rt⟩, hp⟩ := el_some hlt
      obtain ⟨⟨F, G, L⟩, hx⟩ := el_some hlm
      have HX9 := Lib.hid hx
      have HP9 := Lib.hid hp
      have HBX := Lib.hid (HBD.out _ (List.mem_of_getElem? hx))
      have hl3 : L.length ≤ 12 := (mail_here HMP.out HX9.out).2.2
      obtain ⟨gp, op, us, rfl, hgp, hu, hr⟩ := (rd_mv R_Pair_ok HP.out hB).at_ hp
      obtain rfl := rd_Pair hr
      have p_0 : wo.cell? ⟨gp, op + k * 5, none⟩ = some (.int .i64 f0) := by simpa [size_PairS, Nat.add_assoc] using hu 0 _ rfl
      have p_1 : wo.cell? ⟨gp, op + k * 5 + 1, none⟩ = some (.int .i64 f1) := by simpa [size_PairS, Nat.add_assoc] using hu 1 _ rfl
      have p_2 : wo.cell? ⟨gp, op + k * 5 + 2, none⟩ = some (.int .i64 t0) := by simpa [size_PairS, Nat.add_assoc] using hu 2 _ rfl
      have p_3 : wo.cell? ⟨gp, op + k * 5 + 3, none⟩ = some (.int .i64 t1) := by simpa [size_PairS, Nat.add_assoc] using hu 3 _ rfl
      have p_4 : wo.cell? ⟨gp, op + k * 5 + 4, none⟩ = some (.int .i64 rt) := by simpa [size_PairS, Nat.add_assoc] using hu 4 _ rfl
      clear hu hr hgp
      obtain ⟨g, o, us, rfl, hg, hu, hr⟩ := HX.out.at_ hx
      obtain ⟨fa, fc, ga, gc, la, lc, rfl, k_F, k_G, k_L⟩ := rd_Box hr
      have HG := Lib.hid hg
      have HKL := Lib.hid k_L
      have E2 := Lib.hid (show v1.cell? ⟨g, o + k * 3 + 2, none⟩ = some (.slice la L.length lc) from by simpa [size_BoxS, Nat.add_assoc] using hu 2 _ rfl)
      have hi0 : (0 : Int) ≤ (k : Int) := Int.natCast_nonneg _
      have hi1 : (k : Int) < (P.length : Int) := by omega
      have hi2 : (k : Int) < (M.length : Int) := by omega
      have hln : L.length ≤ 9223372036854775807 := by omega
      obtain ⟨c, hc⟩ : ∃ c, LabC.belowB f0 f1 l s = c := ⟨_, rfl⟩
      have HCB := Lib.hid hc
      have R0 := Lib.hid (show i64R (k : Int) from ⟨by omega, by omega⟩)
      obtain ⟨p0, hp0⟩ : ∃ b, PutM.encB (k : Int) = b := ⟨_, rfl⟩
      have s0 : p0.size ≤ 10 := by rw [← hp0]; exact small_enc R0.out
      have G0 := Lib.hid hp0
      have hfs : (logB (F, G, L)).size ≤ 250 := logB_size hl3 HBX.out
      obtain ⟨p1, hp1⟩ : ∃ b, logB (F, G, L) = b := ⟨_, rfl⟩
      rw [hp1] at hfs
      have G1 := Lib.hid (show PutM.encB (L.length : Int) ++ catTo noteB L L.length = p1 from hp1)
      obtain ⟨w1, hw1⟩ : ∃ w, w = wo.alloc (.cells #[.int .i64 f0, .int .i64 f1, .int .i64 t0, .int .i64 t1, .int .i64 rt] 77) := ⟨_, rfl⟩
      have hb1 : Below wo.heap.size wo w1 := by rw [hw1]; exact (Below.refl _ _).alloc (Nat.le_refl _) _
      have T1 := Lib.hid (show Blk w1 wo.heap.size 77 #[.int .i64 f0, .int .i64 f1, .int .i64 t0, .int .i64 t1, .int .i64 rt] from by rw [hw1]; exact Blk.new _ _ _)
      have HB1 := Lib.hid (HB.out.trans (hb1.mono hsz))
      have HBu1 := Lib.hid (BldC.is_below HBu.out hb1)
      have Z2 := Lib.hid (X2.out.call HB1.out)
      have HST1 := Lib.hid (show c = true → T ++ (p0 ++ p1) = catM mBelow fromL logB P M (l, s) (k + 1) from fun h => by rw [catM_step, partM_yes HP9.out HX9.out (show mBelow (fromL ((f0, f1), (t0, t1), rt)) (l, s) = true from HCB.out.trans h), HTT.out, hp0, hp1])
      have HST0 := Lib.hid (show c = false → T = catM mBelow fromL logB P M (l, s) (k + 1) from fun h => by rw [catM_step, partM_no HP9.out HX9.out (show mBelow (fromL ((f0, f1), (t0, t1), rt)) (l, s) = false from HCB.out.trans h), ba_nil, HTT.out])
      clear hB hx hp hu hr hg k_F k_G k_L hc hp0 hp1 hb1 HBu
      go_upto_region 7 with fail
      rw [← hw1]
      clear hw1 p_0 p_1 p_2 p_3 p_4
      have y0 := T1.out.at_ 0 rfl
      have y1 := T1.out.at_ 1 rfl
      have y2 := T1.out.at_ 2 rfl
      have y3 := T1.out.at_ 3 rfl
      have z0 := Z2.out.at_ 0 rfl
      have z1 := Z2.out.at_ 1 rfl
      go_wp2_with fail
      refine (bi_at f0 f1 l s HCB.out _).mono ?_
      rintro e u5 ⟨rfl, hb⟩
      have HB5 := Lib.hid (HB1.out.trans (hb.mono HB1.out.size))
      have HBu5 := Lib.hid (BldC.is_below HBu1.out hb)
      have hzu := HB5.out.size
      clear hb y0 y1 y2 y3 z0 z1
      cases c with
      | false =>
        have HBu6 := Lib.hid (show Lib.IsBuilder 104 5 v1.heap.size v1.heap.size (Lib.strCells (catM mBelow fromL logB P M (l, s) (k + 1))) u5 from by rw [← HST0.out rfl]; exact HBu5.out)
        go_wp2
        go_roundw
        case rel => exact ⟨k + 1, by omega, by go_num, HBu6, HB5.out⟩
        case measure => simp [intOf]; omega
      | true =>
      have HST := Lib.hid (HST1.out rfl)
      have hadd := fun w : World => run_string_add_sum (P := Tryz.prog) w p0 p1 (by omega)
      have hsz2 : (p0 ++ p1).size ≤ 250 + 10 := by rw [ByteArray.size_append]; omega
      have Y1 := Lib.hid (X1.out.call HB5.out)
      have E3 := Lib.hid ((HB5.out.cell (p := ⟨g, o + k * 3 + 2, none⟩) HG.out).trans E2.out)
      have HBud := Lib.hid (BldC.is_below HBu5.out ((Below.refl _ u5).drew))
      go_upto_region 8 with fail
      refine wp_region_held_drew (S := (fun V => Below v1.heap.size u5 V)) (by kernel_rfl) ((Below.refl _ _).drew) (fun hHeld => ?_)
      refine tk 0 hHeld ?_
      refine tk 2 hHeld ?_
      refine tk 3 hHeld ?_ (hy := fun w hSw => by (try dsimp only at hSw); have k0 := (hSw.cell (p := ⟨W.heap.size + 1, 0, none⟩) HLX.out).trans (Y1.out.at_ 0 rfl); clear hSw; go_simp; try with_reducible rfl)
      refine tk 4 hHeld ?_
      refine tk 5 hHeld ?_
      refine tk 6 hHeld ?_
      refine tk 7 hHeld ?_ (hy := fun w hSw => by (try dsimp only at hSw); have k0 := (hSw.cell (p := ⟨g, o + k * 3 + 2, none⟩) HG.out).trans E3.out; clear hSw; go_simp; try with_reducible rfl)
      refine rd1 1 (fun K hK => ?_)
      go_simp
      go_at_call 67
      refine (putI_at (k : Int) G0.out R0.out _).mono ?_
      rintro e u6 ⟨rfl, hb⟩
      have HBu6 := Lib.hid (BldC.is_below HBud.out hb)
      refine hK.out _ _ (hHeld.trans (hb.mono (Nat.le_trans hzu hHeld.size))) (fun hHeld => ?_)
      clear hK K hb
      refine rd1 8 (fun K hK => ?_)
      go_simp
      go_at_call 70
      have hwb := notesb_impl hl3 HBX.out.2.2 (rd_mv R_Note_ok HKL.out (HB5.out.trans hHeld))
      rw [G1.out] at hwb
      refine hwb.mono ?_
      rintro e u7 ⟨rfl, hb⟩
      have HBu7 := Lib.hid (BldC.is_below HBu6.out hb)
      refine hK.out _ _ (hHeld.trans (hb.mono (Nat.le_trans hzu hHeld.size))) (fun hHeld => ?_)
      clear hK K hb hwb
      refine tk 9 hHeld ?_
      refine rd1 10 (fun K hK => ?_)
      go_simp
      go_at_call 66
      refine (BldC.write_any _ _ _ (p0 ++ p1) _ HBu7.out (by rw [Lib.strCells_length]; omega) (Nat.le_trans hzu hHeld.size)).mono ?_
      rintro e u8 ⟨rfl, hw, hb⟩
      have HBu8 := Lib.hid (show Lib.IsBuilder 104 5 v1.heap.size v1.heap.size (Lib.strCells (catM mBelow fromL logB P M (l, s) (k + 1))) u8 from by rw [← HST.out, ← BldC.cells_cat]; exact .inr hw)
      refine hK.out _ _ (hHeld.trans hb) (fun hHeld => ?_)
      clear hK K hw hb
      refine rd0 ?_
      have HF := Lib.hid hHeld
      clear hHeld
      have HB8 := Lib.hid (HB5.out.trans HF.out)
      clear HF hadd
      go_wp2
      go_roundw
      case rel => exact ⟨k + 1, by omega, by go_num, HBu8, HB8.out⟩
      case measure => simp [intOf]; omega
    · have hdl : decide ((k : Int) < (P.length : Int)) = false := decide_eq_false (by omega)
      obtain rfl : k = P.length := by omega
      have HST := Lib.hid (show T = readM fromL logB (C, P, Q, hf) M (l, s) from by rw [HE.out, HTT.out])
      rw [HST.out] at HBu
      clear hB
      go_wp2_with fail
      refine (BldC.str_any _ _ _ _ HBu.out HB.out.size).mono ?_
      rintro e w5 ⟨rfl, hb⟩
      have HB5 := Lib.hid (HB0.out.trans ((HB.out.trans hb).mono hzv))
      clear hb
      go_wp2
      go_ret
      exact ⟨rfl, HB5.out⟩
end Go.Proofs.YtlgflddljhldhaaGreat.RepC
end
section
namespace Go.Proofs.YtlgflddljhldhaaGreat.RepC
open Go.RowKit RowC ValC SpanC KeptC
set_option linter.unusedVariables false
set_option linter.unusedSimpArgs false
theorem cm_labs : ∀ L : List D_Label, sumL R_Label.cm L = 2 * L.length
  | [] => rfl
  | x :: xs => by
    simp only [sumL, cm_labs xs, List.length_cons]
    have : R_Label.cm x = 2 := rfl
    omega
theorem sz_labs : ∀ L : List D_Label, sumL R_Label.sz L = 0
  | [] => rfl
  | x :: xs => by
    simp only [sumL, sz_labs xs]
    rfl
theorem cm_labss : ∀ C : List (List D_Label), sumL (Sl R_Label).cm C ≤ 2 * (Sl (Sl R_Label)).sz C
  | [] => Nat.zero_le _
  | x :: xs => by
    have h := cm_labss xs
    have e : (Sl (Sl R_Label)).sz (x :: xs) = (x :: xs).length + ((Sl R_Label).sz x + sumL (Sl R_Label).sz xs) := rfl
    have e2 : (Sl (Sl R_Label)).sz xs = xs.length + sumL (Sl R_Label).sz xs := rfl
    have e3 : (Sl R_Label).sz x = x.length + sumL R_Label.sz x := rfl
    have e4 : (Sl R_Label).cm x = sumL R_Label.cm x := rfl
    rw [e, e3, sz_labs]
    rw [e2] at h
    simp only [sumL, List.length_cons]
    rw [e4, cm_labs]
    omega
theorem cm_pairs : ∀ L : List D_Pair, sumL R_Pair.cm L = 5 * L.length
  | [] => rfl
  | x :: xs => by
    simp only [sumL, cm_pairs xs, List.length_cons]
    have : R_Pair.cm x = 5 := rfl
    omega
theorem cm_quotas : ∀ L : List D_Quota, sumL R_Quota.cm L = 3 * L.length
  | [] => rfl
  | x :: xs => by
    simp only [sumL, cm_quotas xs, List.length_cons]
    have : R_Quota.cm x = 3 := rfl
    omega
theorem cvs_Config {d : D_Config} (h : R_Config.sz d ≤ 1048576) : R_Config.cv d ≤ 8388608 := by
  obtain ⟨C, P, Q, hf⟩ := d
  rw [szd_Config, flat_PairS, flat_QuotaS] at h
  rw [cvd_Config, cm_pairs, cm_quotas]
  have := cm_labss C
  omega
end Go.Proofs.YtlgflddljhldhaaGreat.RepC
end
section
namespace Go.Proofs.YtlgflddljhldhaaGreat.RepC
open Go.RowKit RowC ValC SpanC KeptC CfC
set_option linter.unusedVariables false
set_option linter.unusedSimpArgs false
theorem cm_i64s : ∀ L : List Int, sumL I.cm L = L.length
  | [] => rfl
  | x :: xs => by
    simp only [sumL, cm_i64s xs, List.length_cons]
    have : I.cm x = 1 := rfl
    omega
theorem cm_notes : ∀ L : List D_Note, sumL R_Note.cm L = 2 * L.length
  | [] => rfl
  | x :: xs => by
    simp only [sumL, cm_notes xs, List.length_cons]
    have : R_Note.cm x = 2 := rfl
    omega
theorem cm_Box (b : D_Box) : R_Box.cm b = b.1.length + b.2.1.length + 2 * b.2.2.length := by
  show sumL I.cm b.1 + (sumL I.cm b.2.1 + sumL R_Note.cm b.2.2) = _
  rw [cm_i64s, cm_i64s, cm_notes]
  omega
theorem cm_boxes : ∀ L : List D_Box, sumL R_Box.cm L ≤ 2 * R_Mail.sz L
  | [] => Nat.zero_le _
  | x :: xs => by
    have h := cm_boxes xs
    have e : R_Mail.sz (x :: xs) = (x :: xs).length + (R_Box.sz x + sumL R_Box.sz xs) := rfl
    have e2 : R_Mail.sz xs = xs.length + sumL R_Box.sz xs := rfl
    have e3 : R_Box.sz x = (x.1.length + sumL I.sz x.1) + ((x.2.1.length + sumL I.sz x.2.1) + (x.2.2.length + sumL R_Note.sz x.2.2)) := rfl
    have e4 := cm_Box x
    simp only [sumL, List.length_cons] at e ⊢
    omega
theorem cvs_Mail {m : D_Mail} (h : R_Mail.sz m ≤ 1048576) : R_Mail.cv m ≤ 8388608 := by
  have h1 := cm_boxes m
  show sumL R_Box.cm m ≤ _
  omega
end Go.Proofs.YtlgflddljhldhaaGreat.RepC
end
