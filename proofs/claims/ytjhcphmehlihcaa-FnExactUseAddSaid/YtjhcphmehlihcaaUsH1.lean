/- UsesHalf of the program: a contract. -/
import Derived.Test.YtjhcphmehlihcaaUsA2
import Derived.IntWalk
namespace Go.Proofs.Ytjhcphmehlihcaa.RepC
open Go.RowKit RowC ValC SpanC KeptC NameC SortC Go.ChangeShapes Go.Maps
set_option linter.unusedVariables false
set_option linter.unusedSimpArgs false

section
variable {P : Program} {ops : Array Oper} {rest : List Oper} {o : Oper} {a : Act} {W W' : World} {Q : Exit → Act → World → Prop}
theorem wpList_lk (hgd : o.guard = none) (m x : Operand) (t : TypeId) (ho : o.op = Op.lookup t m x false) {v y r : Value} (hs : a.eval m = v) (hx : a.eval x = y) (hr : (Instr.lookup t v y false).run P W = .ok r W) (h : wpList P ops Q rest (a.put o.dst r) W) : wpList P ops Q (o :: rest) a W := by
  refine wpList_plain hgd fun K hK => ?_
  unfold Oper.wp
  simp [execOp, ho, hs, hx, hr, Result.andThen]
  exact hK _ _ h
theorem wpList_mu (hgd : o.guard = none) (m x z : Operand) (t : TypeId) (ho : o.op = Op.mapUpdate t m x z) {v y u : Value} (hs : a.eval m = v) (hx : a.eval x = y) (hz : a.eval z = u) (hr : (Instr.mapUpdate t v y u).run P W = .ok () W') (h : wpList P ops Q rest (a.put o.dst undef) W') : wpList P ops Q (o :: rest) a W := by
  refine wpList_plain hgd fun K hK => ?_
  unfold Oper.wp
  simp [execOp, ho, hs, hx, hz, hr, Result.andThen]
  exact hK _ _ h
theorem wpList_dl (hgd : o.guard = none) (m x : Operand) (t k : TypeId) (ho : o.op = Op.call { callee := Callee.builtin Builtin.delete, args := #[m, x], argTypes := #[t, k] }) {v y : Value} (hs : a.eval m = v) (hx : a.eval x = y) (hr : (Builtin.delete_ #[t, k] o.type #[v, y]).run P W = .ok (.tuple #[]) W') (h : wpList P ops Q rest (a.put o.dst (.tuple #[])) W') : wpList P ops Q (o :: rest) a W := by
  refine wpList_plain hgd fun K hK => ?_
  unfold Oper.wp
  simp [execOp, ho, resolve, invoke, builtin, hs, hx, hr, Result.andThen]
  exact hK _ _ h
end
theorem cell_cong {w w' : World} {g i : Nat} (h : w'.heap[g]? = w.heap[g]?) : w'.cell? ⟨g, i, none⟩ = w.cell? ⟨g, i, none⟩ := by simp only [World.cell?, h]
theorem not_map {w : World} {b n g i : Nat} {D : DataW Value} {F : AC → Option Int} {v : Value} (hM : MpU w b n D F) (h : w.cell? ⟨g, i, none⟩ = some v) : g ≠ b := fun e => by
  obtain ⟨es, clock, h1, _⟩ := hM.own
  subst e
  simp [World.cell?, h1] at h
noncomputable def halfV (L : List D_Use) : List D_Use := if usesB L = true then halfL L else []
theorem halfV_no {L : List D_Use} (h : usesB L = false) : halfV L = [] := by unfold halfV; rw [if_neg (by rw [h]; decide)]
theorem halfV_yes {L : List D_Use} (h : usesB L = true) : halfV L = halfL L := if_pos h
noncomputable def halfF (L : List D_Use) (xs : List AC) (k : Nat) (a : AC) : Option Int := by classical exact if a ∈ xs.take k then (FU L a).bind half else FU L a
theorem halfF_zero (L : List D_Use) (xs : List AC) (a : AC) : FU L a = halfF L xs 0 a := by unfold halfF; simp
theorem halfF_step {L : List D_Use} {xs : List AC} {k : Nat} {x a : AC} (hx : xs[k]? = some x) : halfF L xs (k + 1) a = if a = x then (FU L a).bind half else halfF L xs k a := by
  classical
  unfold halfF
  rw [List.take_add_one, hx]
  by_cases e : a = x
  · simp [e]
  · simp [e]
theorem halfF_new {L : List D_Use} {xs : List AC} {k : Nat} {x : AC} (hx : xs[k]? = some x) (hn : xs.Nodup) : halfF L xs k x = FU L x := by
  classical
  unfold halfF
  rw [if_neg]
  intro h
  obtain ⟨i, hi, e⟩ := List.getElem_of_mem h
  rw [List.length_take] at hi
  rw [List.getElem_take] at e
  obtain ⟨hk, e2⟩ := List.getElem?_eq_some_iff.1 hx
  have := (List.nodup_iff_pairwise_ne.1 hn)
  rw [List.pairwise_iff_getElem] at this
  exact this i k (by omega) hk (by omega) (e.trans e2.symm)
theorem halfF_end {L : List D_Use} {xs : List AC} (h : AllOf (FU L) xs) {a : AC} (ha : WfA a) : halfF L xs xs.length a = (FU L a).bind half := by
  classical
  unfold halfF
  rw [List.take_length]
  by_cases e : a ∈ xs
  · rw [if_pos e]
  · rw [if_neg e]
    cases hf : FU L a with
    | none => rfl
    | some v => exact absurd ((h.2.2 a ha).2 (by rw [hf]; rfl)) e
theorem halfF_size {L : List D_Use} (hR : UsesR L) {xs : List AC} {k : Nat} {a : AC} (h : (halfF L xs k a).isSome = true) : a.2.size ≤ 8000 := by
  have h1 : (FU L a).isSome = true := by
    unfold halfF at h
    split at h
    · cases hf : FU L a with
      | none => rw [hf] at h; cases h
      | some v => rfl
    · exact h
  obtain ⟨x, hx, rfl⟩ := List.mem_map.1 (FU_some.1 h1)
  exact (usesR_keyed hR x hx).2.2.2.2
theorem FU_in {L : List D_Use} (hR : UsesR L) {a : AC} (h : (FU L a).isSome = true) : ∃ v, FU L a = some v ∧ 1 ≤ v ∧ v ≤ 100000 := by
  obtain ⟨x, hx, rfl⟩ := List.mem_map.1 (FU_some.1 h)
  have := usesR_keyed hR x hx
  exact ⟨x.2.2, FU_mem (usesR_keys hR) hx, this.2.2.1, this.2.2.2.1⟩
theorem quo2 {v : Int} (h1 : 1 ≤ v) (h2 : v ≤ 100000) : IntKind.i64.wrap (v.tdiv 2) = v / 2 := Go.IntWalk.i64_quo v 2 ⟨by omega, by omega, by omega⟩
set_option maxRecDepth 100000 in
set_option maxHeartbeats 3200000 in
theorem half_impl {L : List D_Use} {a : Option Addr} {cap : Nat} {W : World} (h : RdSl R_Use W W.heap.size L a cap) :
    Calls Try.prog 16 #[.slice a L.length cap] W (NewS R_Use (halfV L) W) := by
  have H := Lib.hid h
  clear h
  go_enter Try.func16, Try.ntmps16
  go_wp2_with fail
  refine (uses_impl H.out).mono ?_
  intro e w1 h
  obtain ⟨rfl, hb⟩ := isB_elim h
  have HB1 := Lib.hid hb
  have HA1 := Lib.hid ((H.out.below R_Use_ok hb).more R_Use_ok hb.size)
  clear h hb
  cases hq : usesB L with
  | false =>
    have HE := Lib.hid (halfV_no (L := L) hq)
    clear hq
    go_wp2
    go_ret
    rw [HE.out]
    exact ⟨none, 0, rfl, ⟨Nat.le_refl _, Nat.zero_le _, fun h => absurd h (Nat.lt_irrefl _)⟩, HB1.out⟩
  | true =>
    have HE := Lib.hid (halfV_yes (L := L) hq)
    have HR := Lib.hid (usesB_iff.1 hq)
    have h48 := HR.out.1
    clear hq
    go_wp2_with fail
    refine (table_impl HR.out HA1.out).mono ?_
    intro e w2 h
    obtain ⟨b, n, D, rfl, hnn, hM, hbl, hb⟩ := mapC_elim h
    have HM2 := Lib.hid hM
    have HB2 := Lib.hid (HB1.out.trans (hb.mono HB1.out.size))
    have HO := Lib.hid (order_impl b n (by omega) D (FU L) w2 hM)
    have hbW : W.heap.size ≤ b := Nat.le_trans HB1.out.size hbl
    clear h hM hbl hb
    go_wp2_with fail
    refine HO.out.mono ?_
    clear HO
    intro e W1 h
    obtain ⟨xs, ax, c, rfl, h1, h2, h3⟩ := ordR_elim h
    have HXA := Lib.hid h1
    have HX := Lib.hid h2
    have HBW := Lib.hid (HB2.out.trans (h3.mono HB2.out.size))
    have HM1 := Lib.hid (HM2.out.call h3)
    have hxn : xs.length ≤ n := h1.2.2
    clear h h1 h2 h3
    go_wp2_with fail
    go_loopw [14] (fun i wr => ∃ k : Nat, k ≤ xs.length ∧ i = .int .i64 k ∧ Hid (∃ m D, m ≤ n + k ∧ MpU wr b m D (halfF L xs k)) ∧ W1.grownBy wr (some b)) (fun i _ => xs.length - (intOf i).toNat)
    case atStart => exact ⟨0, Nat.zero_le _, rfl, Lib.hid ⟨n, D, Nat.le_refl _, HM1.out.ext fun a _ => halfF_zero L xs a⟩, below_grown2 (Below.refl _ _)⟩
    case round =>
      obtain ⟨k, hk, rfl, HM, hB⟩ := hrel
      obtain ⟨wo, rfl⟩ : ∃ x, x = wr := ⟨_, rfl⟩
      have HB := Lib.hid hB
      have hsz := hB.size
      by_cases hlt : k < xs.length
      · skip
        obtain ⟨⟨⟨x0, x1⟩, x2⟩, hx⟩ := el_some hlt
        obtain ⟨g, o, us, rfl, hg, hu, hr⟩ := HX.out.at_ hx
        obtain ⟨rfl, b_x2⟩ := rd_Acc hr
        have f0 : W1.cell? ⟨g, o + k * 3, none⟩ = some (.int .i64 x0) := by simpa [size_Acc, Nat.add_assoc] using hu 0 _ rfl
        have f1 : W1.cell? ⟨g, o + k * 3 + 1, none⟩ = some (.int .i64 x1) := by simpa [size_Acc, Nat.add_assoc] using hu 1 _ rfl
        have f2 : W1.cell? ⟨g, o + k * 3 + 2, none⟩ = some (.string x2) := by simpa [size_Acc, Nat.add_assoc] using hu 2 _ rfl
        have hgk : wo.heap[g]? = W1.heap[g]? := hB.block g hg (fun e => not_map HM1.out f0 (Option.some.inj e))
        have e0 := (cell_cong hgk).trans f0
        have e1 := (cell_cong hgk).trans f1
        have e2 := (cell_cong hgk).trans f2
        have hi0 : (0 : Int) ≤ (k : Int) := Int.natCast_nonneg _
        have hi1 : (k : Int) < (xs.length : Int) := by omega
        have HXK := Lib.hid hx
        have HW := Lib.hid (HXA.out.1.2.1 _ (List.mem_of_getElem? hx))
        obtain ⟨x3, hf, hx1, hx2⟩ := FU_in HR.out ((HXA.out.1.2.2 _ HW.out).1 (List.mem_of_getElem? hx))
        have HF := Lib.hid hf
        have hq2 := quo2 hx1 hx2
        have HWF := Lib.hid (show (Lit.int .i64 (x3 / 2)).wf = true from wf64 (by omega) (by omega))
        obtain ⟨m, D', hmn, hM⟩ := HM.out
        have HFN := Lib.hid (halfF_new (L := L) hx HXA.out.1.1)
        have hml := hM.lt
        obtain ⟨w3, hw3⟩ : ∃ w, w = wo.alloc (.cells #[.int .i64 x0, .int .i64 x1, .string x2] 65) := ⟨_, rfl⟩
        have hbA : Below wo.heap.size wo w3 := by rw [hw3]; exact (Below.refl _ _).alloc (Nat.le_refl _) _
        have HM3 := Lib.hid (hM.call hbA)
        have HP3 := Lib.hid (show Blk w3 wo.heap.size 65 #[.int .i64 x0, .int .i64 x1, .string x2] from by rw [hw3]; exact Blk.new _ _ _)
        have HNB := Lib.hid (show wo.heap.size ≠ b from by omega)
        have HG3 := Lib.hid (grown_two hB (below_grown2 (b := b) hbA))
        have hlk : (Instr.lookup 62 (.map (some b)) (.agg #[.int .i64 x0, .int .i64 x1, .string x2]) false).run Try.prog w3 = .ok (.int .i64 x3) w3 := by
          have := HM3.out.look HW.out
          rw [HFN.out, HF.out] at this
          exact this
        obtain ⟨w4, hrun0, hm4, ht4⟩ := HM3.out.put (by omega) HW.out HWF.out
        have hmu : (Instr.mapUpdate 62 (.map (some b)) (.agg #[.int .i64 x0, .int .i64 x1, .string x2]) (.int .i64 (x3 / 2))).run Try.prog w3 = .ok () w4 := hrun0
        have HM4 := Lib.hid hm4
        have HT4 := Lib.hid (turned_grown ht4)
        have hlk2 : (Instr.lookup 62 (.map (some b)) (.agg #[.int .i64 x0, .int .i64 x1, .string x2]) false).run Try.prog w4 = .ok (.int .i64 (x3 / 2)) w4 := by
          have := HM4.out.look HW.out
          simp only [if_true, Option.getD_some] at this
          exact this
        obtain ⟨w5, hrun1, hm5, ht5⟩ := HM4.out.drop HW.out 3
        have HM5 := Lib.hid hm5
        have HT5 := Lib.hid (turned_grown ht5)
        have p0 := HP3.out.at_ 0 rfl
        have p1 := HP3.out.at_ 1 rfl
        have p2 := HP3.out.at_ 2 rfl
        have q0 := box_at HT4.out HP3.out HNB.out 0 rfl
        have q1 := box_at HT4.out HP3.out HNB.out 1 rfl
        have q2 := box_at HT4.out HP3.out HNB.out 2 rfl
        have HG4 := Lib.hid (grown_two HG3.out HT4.out)
        have HG5 := Lib.hid (grown_two HG4.out HT5.out)
        clear hu hr hg hB hx b_x2 f0 f1 f2 hgk hM hf hbA hrun0 hm4 ht4 hm5 ht5 HM
        cases hz : (x3 / 2 == 0) with
        | false =>
          have HZ := Lib.hid (show half x3 = some (x3 / 2) from by unfold half; rw [if_neg (by simpa using hz)])
          have HM6 := Lib.hid (HM4.out.ext (G := halfF L xs (k + 1)) fun y _ => by
            rw [halfF_step HXK.out]
            by_cases e : y = ((x0, x1), x2)
            · rw [if_pos e, if_pos e, e, HF.out]
              exact HZ.out.symm
            · simp only [if_neg e])
          subst hw3
          go_wp2_with (first | (at_lookup; refine wpList_lk rfl (.tmp 18) (.tmp 19) 62 rfl rfl rfl hlk ?_) | (at_lookup; refine wpList_lk rfl (.tmp 22) (.tmp 23) 62 rfl rfl rfl hlk2 ?_) | (at_mapUpdate; refine wpList_mu rfl (.tmp 18) (.tmp 19) (.tmp 21) 62 rfl rfl rfl rfl hmu ?_))
          go_roundw
          case rel => exact ⟨k + 1, by omega, by go_num, Lib.hid ⟨m + 1, _, by omega, HM6.out⟩, HG4.out⟩
          case measure => simp [intOf]; omega
        | true =>
          have HZ := Lib.hid (show half x3 = none from by unfold half; rw [if_pos (by simpa using hz)])
          have HM6 := Lib.hid (HM5.out.ext (G := halfF L xs (k + 1)) fun y _ => by
            rw [halfF_step HXK.out]
            by_cases e : y = ((x0, x1), x2)
            · rw [if_pos e, if_pos e, e, HF.out]
              exact HZ.out.symm
            · simp only [if_neg e])
          subst hw3
          go_wp2_with (first | (at_lookup; refine wpList_lk rfl (.tmp 18) (.tmp 19) 62 rfl rfl rfl hlk ?_) | (at_lookup; refine wpList_lk rfl (.tmp 22) (.tmp 23) 62 rfl rfl rfl hlk2 ?_) | (at_mapUpdate; refine wpList_mu rfl (.tmp 18) (.tmp 19) (.tmp 21) 62 rfl rfl rfl rfl hmu ?_) | (at_delete; refine wpList_dl rfl (.tmp 26) (.tmp 27) 62 65 rfl rfl rfl hrun1 ?_))
          go_roundw
          case rel => exact ⟨k + 1, by omega, by go_num, Lib.hid ⟨m + 1, _, by omega, HM6.out⟩, HG5.out⟩
          case measure => simp [intOf]; omega
      · have hdl : decide ((k : Int) < (xs.length : Int)) = false := decide_eq_false (by omega)
        obtain rfl : k = xs.length := by omega
        obtain ⟨m, D', hmn, hM⟩ := HM.out
        have HT := Lib.hid (tuses_impl b m (by omega) D' (halfF L xs xs.length) wo hM (fun a _ h => halfF_size HR.out h))
        have HBo := Lib.hid (HBW.out.trans (grown_below2 HB.out hbW HBW.out.size))
        clear hB hM
        go_wp2_with fail
        refine HT.out.mono ?_
        intro e w3 h
        obtain ⟨ys, ⟨ha, hp, _⟩, hnew⟩ := usesC_elim h
        rw [half_uses HR.out (fun a ha => halfF_end HXA.out.1 ha) ha hp] at hnew
        obtain ⟨a', c', rfl, ho, hb⟩ := newS_elim hnew
        have HQ := Lib.hid ho
        have HB3 := Lib.hid (HBo.out.trans (hb.mono HBo.out.size))
        have hz := HBo.out.size
        clear h ha hp hnew ho hb
        go_wp2
        go_ret
        rw [HE.out]
        exact ⟨a', c', rfl, HQ.out.more fun k hk => ⟨Nat.le_trans hz hk.1, hk.2⟩, HB3.out⟩
end Go.Proofs.Ytjhcphmehlihcaa.RepC
