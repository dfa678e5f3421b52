/- What UseAdd answers; takes: a contract. -/
import Derived.Test.YtjhcphmehlihcaaUsB1
namespace Go.Proofs.Ytjhcphmehlihcaa.RepC
open Go.RowKit RowC ValC SpanC KeptC NameC SortC Go.ChangeShapes Go.Maps
set_option linter.unusedVariables false
set_option linter.unusedSimpArgs false
set_option maxRecDepth 100000

def addM (v n : Int) : Int := if 100000 < v + n then 100000 else v + n
noncomputable def insU : List D_Use → AC → Int → List D_Use
  | [], a, n => [(a.1, a.2, n)]
  | x :: xs, a, n => by classical exact if ku x = a then (a.1, a.2, addM x.2.2 n) :: xs else if ltA a (ku x) then (a.1, a.2, n) :: x :: xs else x :: insU xs a n
theorem insU_nil (a : AC) (n : Int) : insU [] a n = [(a.1, a.2, n)] := rfl
theorem insU_hit {x : D_Use} {xs : List D_Use} {a : AC} {n : Int} (h : ku x = a) : insU (x :: xs) a n = (a.1, a.2, addM x.2.2 n) :: xs := by
  unfold insU; rw [if_pos h]
theorem insU_less {x : D_Use} {xs : List D_Use} {a : AC} {n : Int} (h : ku x ≠ a) (h2 : ltA a (ku x)) : insU (x :: xs) a n = (a.1, a.2, n) :: x :: xs := by
  unfold insU; rw [if_neg h, if_pos h2]
theorem insU_go {x : D_Use} {xs : List D_Use} {a : AC} {n : Int} (h : ku x ≠ a) (h2 : ¬ ltA a (ku x)) : insU (x :: xs) a n = x :: insU xs a n := by
  rw [insU, if_neg h, if_neg h2]
theorem insU_app : ∀ {P Q : List D_Use} {a : AC} {n : Int}, (∀ x ∈ P, ku x ≠ a ∧ ¬ ltA a (ku x)) → insU (P ++ Q) a n = P ++ insU Q a n
  | [], Q, a, n, _ => rfl
  | x :: P, Q, a, n, h => by
    have hx := h x (by simp)
    rw [List.cons_append, insU_go hx.1 hx.2, insU_app fun y hy => h y (by simp [hy])]
    rfl
theorem insU_keys : ∀ {L : List D_Use} {a b : AC} {n : Int}, b ∈ (insU L a n).map ku ↔ b = a ∨ b ∈ L.map ku
  | [], a, b, n => by simp [insU_nil, ku]
  | x :: xs, a, b, n => by
    by_cases h : ku x = a
    · rw [insU_hit h]
      simp only [List.map_cons, List.mem_cons, h]
      show b = a ∨ _ ↔ _
      constructor
      · rintro (h | h)
        · exact .inl h
        · exact .inr (.inr h)
      · rintro (h | h | h)
        · exact .inl h
        · exact .inl h
        · exact .inr h
    · by_cases h2 : ltA a (ku x)
      · rw [insU_less h h2]
        simp only [List.map_cons, List.mem_cons]
        exact Iff.rfl
      · rw [insU_go h h2]
        simp only [List.map_cons, List.mem_cons]
        rw [insU_keys]
        constructor
        · rintro (h | h | h)
          · exact .inr (.inl h)
          · exact .inl h
          · exact .inr (.inr h)
        · rintro (h | h | h)
          · exact .inr (.inl h)
          · exact .inl h
          · exact .inr (.inr h)
theorem insU_sorted : ∀ {L : List D_Use} {a : AC} {n : Int}, (L.map ku).Pairwise ltA → ((insU L a n).map ku).Pairwise ltA
  | [], a, n, _ => by rw [insU_nil]; simp
  | x :: xs, a, n, hp => by
    have h0 := hp
    rw [List.map_cons, List.pairwise_cons] at h0
    by_cases h : ku x = a
    · rw [insU_hit h, List.map_cons, List.pairwise_cons]
      refine ⟨fun b hb => ?_, h0.2⟩
      have := h0.1 b hb
      rw [h] at this
      exact this
    · by_cases h2 : ltA a (ku x)
      · rw [insU_less h h2, List.map_cons, List.pairwise_cons]
        refine ⟨fun b hb => ?_, hp⟩
        rw [List.map_cons, List.mem_cons] at hb
        rcases hb with rfl | hb
        · exact h2
        · exact ltA_trans h2 (h0.1 b hb)
      · rw [insU_go h h2, List.map_cons, List.pairwise_cons]
        refine ⟨fun b hb => ?_, insU_sorted h0.2⟩
        rcases insU_keys.1 hb with rfl | hb
        · exact Classical.byContradiction fun h3 => h (ltA_tri h3 h2)
        · exact h0.1 b hb
theorem insU_FU : ∀ {L : List D_Use} {a : AC} {n : Int} (y : AC), (L.map ku).Pairwise ltA → FU (insU L a n) y = if y = a then some (match FU L a with | some v => addM v n | none => n) else FU L y
  | [], a, n, y, _ => by
    rw [insU_nil, FU_cons, FU_nil]
    by_cases h : y = a
    · rw [if_pos h, if_pos (show ku (a.1, a.2, n) = y from h.symm)]
      rfl
    · rw [if_neg h, if_neg (show ¬ ku (a.1, a.2, n) = y from fun e => h e.symm)]
  | x :: xs, a, n, y, hp => by
    have h0 := hp
    rw [List.map_cons, List.pairwise_cons] at h0
    by_cases h : ku x = a
    · rw [insU_hit h]
      simp only [FU_cons, h, if_true]
      by_cases hy : y = a
      · rw [if_pos hy, if_pos (show ku (a.1, a.2, addM x.2.2 n) = y from hy.symm)]
      · rw [if_neg hy, if_neg (show ¬ ku (a.1, a.2, addM x.2.2 n) = y from fun e => hy e.symm), if_neg (fun e => hy e.symm)]
    · by_cases h2 : ltA a (ku x)
      · rw [insU_less h h2]
        have hn : FU (x :: xs) a = none := FU_out fun hm => by
          rw [List.map_cons, List.mem_cons] at hm
          rcases hm with hm | hm
          · exact h hm.symm
          · exact ltA_irrefl a (ltA_trans h2 (h0.1 a hm))
        rw [hn, FU_cons (a.1, a.2, n)]
        by_cases hy : y = a
        · rw [if_pos hy, if_pos (show ku (a.1, a.2, n) = y from hy.symm)]
        · rw [if_neg hy, if_neg (show ¬ ku (a.1, a.2, n) = y from fun e => hy e.symm)]
      · rw [insU_go h h2]
        simp only [FU_cons]
        rw [insU_FU y h0.2]
        by_cases hk : ku x = y
        · have hne : ¬ y = a := fun e => h (hk.trans e)
          rw [if_pos hk, if_neg hne, if_pos hk]
        · rw [if_neg hk, if_neg hk, if_neg h]
noncomputable def addF (L : List D_Use) (a : AC) (n : Int) (y : AC) : Option Int := by classical exact if y = a then some (addM ((FU L a).getD 0) n) else FU L y
theorem add_uses {L : List D_Use} (hR : UsesR L) {a : AC} (ha : WfA a) {n : Int} (h1 : 1 ≤ n) (h2 : n ≤ 100000) {xs : List AC} (h : AllOf (addF L a n) xs) (hp : xs.Pairwise ltA) : xs.map (mkU (addF L a n)) = insU L a n :=
  uses_eq (insU_sorted (usesR_keys hR)) (fun y hy => by
    rcases insU_keys.1 (List.mem_map_of_mem hy) with e | e
    · rw [e]; exact ha
    · obtain ⟨x, hx, e2⟩ := List.mem_map.1 e
      rw [← e2]
      exact (usesR_keyed hR x hx).1) (fun y hy => by
    rw [insU_FU y (usesR_keys hR)]
    unfold addF
    by_cases e : y = a
    · rw [if_pos e, if_pos e]
      cases hf : FU L a with
      | some v => rfl
      | none =>
        show some (addM 0 n) = some n
        unfold addM
        rw [if_neg (by omega), Int.zero_add]
    · rw [if_neg e, if_neg e]) h hp
/-- is there room for an account? -/
noncomputable def takesB (F : AC → Option Int) (ys : List AC) (a : AC) : Bool := (F a).isSome || (decide (ys.length < 48) && decide (cntA a.1 ys < 6))
noncomputable def addV (L : List D_Use) (a : AC) (n : Int) : List D_Use := by classical exact if 400 < L.length ∨ 8000 < a.2.size then [] else if usesB L = true ∧ LabC.rB a.1.1 a.1.2 = true ∧ nameB a.2 = true ∧ isB n 1 100000 = true ∧ takesB (FU L) (L.map ku) a = true then insU L a n else L
theorem addV_big {L : List D_Use} {a : AC} {n : Int} (h : 400 < L.length ∨ 8000 < a.2.size) : addV L a n = [] := by unfold addV; rw [if_pos h]
theorem addV_no {L : List D_Use} {a : AC} {n : Int} (h0 : L.length ≤ 400) (h1 : a.2.size ≤ 8000) (h : ¬ (usesB L = true ∧ LabC.rB a.1.1 a.1.2 = true ∧ nameB a.2 = true ∧ isB n 1 100000 = true ∧ takesB (FU L) (L.map ku) a = true)) : addV L a n = L := by unfold addV; rw [if_neg (by omega), if_neg h]
theorem addV_yes {L : List D_Use} {a : AC} {n : Int} (h0 : L.length ≤ 400) (h1 : a.2.size ≤ 8000) (h : usesB L = true ∧ LabC.rB a.1.1 a.1.2 = true ∧ nameB a.2 = true ∧ isB n 1 100000 = true ∧ takesB (FU L) (L.map ku) a = true) : addV L a n = insU L a n := by unfold addV; rw [if_neg (by omega), if_pos h]
section
variable {P : Program} {ops : Array Oper} {rest : List Oper} {o : Oper} {a : Act} {W W' : World} {Q : Exit → Act → World → Prop}
theorem wpList_lko (hgd : o.guard = none) (m x : Operand) (t : TypeId) (ho : o.op = Op.lookup t m x true) {v y r : Value} (hs : a.eval m = v) (hx : a.eval x = y) (hr : (Instr.lookup t v y true).run P W = .ok r W) (h : wpList P ops Q rest (a.put o.dst r) W) : wpList P ops Q (o :: rest) a W := by
  refine wpList_plain hgd fun K hK => ?_
  unfold Oper.wp
  simp [execOp, ho, hs, hx, hr, Result.andThen]
  exact hK _ _ h
end
set_option maxHeartbeats 3200000 in
theorem takes_impl (b nn : Nat) (hnn : nn ≤ 1000) (D : DataW Value) (F : AC → Option Int) (W : World) (hM : MpU W b nn D F) {ys : List AC} (hA : AllOf F ys) {x0 x1 : Int} {x2 : ByteArray} (hw : WfA ((x0, x1), x2)) :
    Calls Try.prog 44 #[.map (some b), .agg #[.int .i64 x0, .int .i64 x1, .string x2]] W fun e w' => e = .returned (.bool (takesB F ys ((x0, x1), x2))) ∧ Below W.heap.size W w' := by
  have HS := Lib.hid (size_of hM hA)
  obtain ⟨w1, hw1⟩ : ∃ w, w = W.alloc (.cells #[.int .i64 x0, .int .i64 x1, .string x2] 65) := ⟨_, rfl⟩
  have hbA : Below W.heap.size W w1 := by rw [hw1]; exact (Below.refl _ _).alloc (Nat.le_refl _) _
  have HM := Lib.hid (hM.call hbA)
  have HP := Lib.hid (show Blk w1 W.heap.size 65 #[.int .i64 x0, .int .i64 x1, .string x2] from by rw [hw1]; exact Blk.new _ _ _)
  have HB := Lib.hid hbA
  have hown := HM.out.own
  have HO := Lib.hid (owners_impl b nn hnn D F w1 HM.out hA x0 x1)
  have q0 := HP.out.at_ 0 rfl
  have q1 := HP.out.at_ 1 rfl
  have q2 := HP.out.at_ 2 rfl
  have hlk : (Instr.lookup 62 (.map (some b)) (.agg #[.int .i64 x0, .int .i64 x1, .string x2]) true).run Try.prog w1 = .ok (.tuple #[.int .i64 ((F ((x0, x1), x2)).getD 0), .bool (F ((x0, x1), x2)).isSome]) w1 := HM.out.lookok hw
  obtain ⟨u, hu⟩ : ∃ u, (F ((x0, x1), x2)).getD 0 = u := ⟨_, rfl⟩
  obtain ⟨z, hz⟩ : ∃ z, (F ((x0, x1), x2)).isSome = z := ⟨_, rfl⟩
  rw [hu, hz] at hlk
  obtain ⟨m, hm⟩ : ∃ m, cntA (x0, x1) ys = m := ⟨_, rfl⟩
  have HT : Hid (takesB F ys ((x0, x1), x2) = (z || (decide (Maps.size D < 48) && decide (m < 6)))) := Lib.hid (by unfold takesB; rw [hz, HS.out, ← hm])
  rw [hm] at HO
  clear hu hz hm hM hA hbA hw
  go_enter Try.func44, Try.ntmps44
  cases z with
  | true =>
    subst hw1
    go_wp2_with (at_lookup; refine wpList_lko rfl (.tmp 8) (.tmp 9) 62 rfl rfl rfl hlk ?_)
    go_ret
    exact ⟨by rw [HT.out]; rfl, HB.out⟩
  | false =>
    cases h48 : decide (Maps.size D < 48) with
    | false =>
      have h48' : decide ((Maps.size D : Int) < 48) = false := decide_eq_false (by have := of_decide_eq_false h48; omega)
      have HT2 := Lib.hid (show takesB F ys ((x0, x1), x2) = false from by rw [HT.out, h48]; rfl)
      subst hw1
      go_wp2_with (first | (at_lookup; refine wpList_lko rfl (.tmp 8) (.tmp 9) 62 rfl rfl rfl hlk ?_) | (at_len; refine wpList_len_own _ rfl _ 62 rfl 65 2 Try.underlying62 _ b nn _ rfl hown ?_))
      go_ret
      exact ⟨by rw [HT2.out]; rfl, HB.out⟩
    | true =>
      have h48' : decide ((Maps.size D : Int) < 48) = true := decide_eq_true (by have := of_decide_eq_true h48; omega)
      have HT2 := Lib.hid (show takesB F ys ((x0, x1), x2) = decide (m < 6) from by rw [HT.out, h48]; rfl)
      subst hw1
      go_wp2_with (first | (at_lookup; refine wpList_lko rfl (.tmp 8) (.tmp 9) 62 rfl rfl rfl hlk ?_) | (at_len; refine wpList_len_own _ rfl _ 62 rfl 65 2 Try.underlying62 _ b nn _ rfl hown ?_) | (go_at_call 65; refine HO.out.mono ?_; rintro e w2 ⟨rfl, hb⟩; have HB2 := Lib.hid (HB.out.trans (hb.mono HB.out.size)); clear hb))
      have hdm : decide ((m : Int) < 6) = decide (m < 6) := by by_cases h : m < 6 <;> simp [h] <;> omega
      go_wp2
      go_ret
      exact ⟨by rw [HT2.out]; first | rfl | simp [hdm], HB2.out⟩
end Go.Proofs.Ytjhcphmehlihcaa.RepC
