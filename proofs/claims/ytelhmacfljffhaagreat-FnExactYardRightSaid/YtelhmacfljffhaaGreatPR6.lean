/- Of this claim's texts the part 6: TaL0 YaP YaD1 CfI2 CfI3 CfV2 YaD2 YaC1 YaC2 YaD3 YaU. -/
import Derived.Test.YtelhmacfljffhaaGreatPR5
section
namespace Go.Proofs.YtelhmacfljffhaaGreat.RepC
open Go.RowKit RowC ValC SpanC KeptC NameC
set_option linter.unusedVariables false
set_option linter.unusedSimpArgs false
def liveB (x : D_Task) (a : D_Label) : Bool := decide (tLab x = a) && isB (tState x) 1 3
def liveTo (L : List D_Task) (a : D_Label) (k : Nat) : Nat := ((L.take k).filter (fun x => liveB x a)).length
noncomputable def liveOf (L : List D_Task) (a : D_Label) : Int := if tasksB L = true then (liveTo L a L.length : Int) else 0
theorem liveOf_yes {L : List D_Task} {a : D_Label} (h : tasksB L = true) : liveOf L a = (liveTo L a L.length : Int) := if_pos h
theorem liveOf_no {L : List D_Task} {a : D_Label} (h : tasksB L = false) : liveOf L a = 0 := if_neg (by rw [h]; decide)
theorem liveTo_zero {L : List D_Task} {a : D_Label} : liveTo L a 0 = 0 := by simp [liveTo]
theorem liveTo_yes {L : List D_Task} {a : D_Label} {k : Nat} {x : D_Task} (hx : L[k]? = some x) (h : liveB x a = true) : liveTo L a (k + 1) = liveTo L a k + 1 := by
  unfold liveTo
  rw [List.take_add_one, hx, Option.toList_some, List.filter_append, List.length_append]
  simp [h]
theorem liveTo_no {L : List D_Task} {a : D_Label} {k : Nat} {x : D_Task} (hx : L[k]? = some x) (h : liveB x a = false) : liveTo L a (k + 1) = liveTo L a k := by
  unfold liveTo
  rw [List.take_add_one, hx, Option.toList_some, List.filter_append, List.length_append]
  simp [h]
theorem liveTo_le {L : List D_Task} {a : D_Label} (k : Nat) : liveTo L a k ≤ k := by
  unfold liveTo
  exact Nat.le_trans (List.length_filter_le _ _) (List.length_take_le _ _)
theorem liveS_at (st : Int) {b : Bool} (hb : isB st 1 3 = b) (w : World) : Calls Tryz.prog 81 #[.int .i64 st] w fun e w' => e = .returned (.bool b) ∧ Below w.heap.size w w' := by
  by_cases h1 : st = 1
  · have h1' : (st == 1) = true := beq_iff_eq.2 h1
    have HE := Lib.hid (show b = true from by rw [← hb, isB_iff]; omega)
    clear h1
    go_enter Tryz.func81, Tryz.ntmps81
    go_wp2
    go_ret
    exact ⟨by rw [HE.out]; rfl, Below.refl _ _⟩
  have h1' : (st == 1) = false := beq_eq_false_iff_ne.2 h1
  by_cases h2 : st = 2
  · have h2' : (st == 2) = true := beq_iff_eq.2 h2
    have HE := Lib.hid (show b = true from by rw [← hb, isB_iff]; omega)
    clear h2 h1
    go_enter Tryz.func81, Tryz.ntmps81
    go_wp2
    go_ret
    exact ⟨by rw [HE.out]; rfl, Below.refl _ _⟩
  have h2' : (st == 2) = false := beq_eq_false_iff_ne.2 h2
  have HE := Lib.hid (show b = (st == 3) from by
    rw [← hb, Bool.eq_iff_iff, isB_iff, beq_iff_eq]; omega)
  clear h1 h2
  go_enter Tryz.func81, Tryz.ntmps81
  go_wp2
  go_ret
  exact ⟨by rw [HE.out]; rfl, Below.refl _ _⟩
def OfL (L : List D_Task) (a : D_Label) (W : World) (e : Ending) (w' : World) : Prop := e = .returned (.int .i64 (liveOf L a)) ∧ Below W.heap.size W w'
set_option maxRecDepth 100000 in
set_option maxHeartbeats 3200000 in
theorem live_spec {L : List D_Task} {a : Option Addr} {cap : Nat} {l0 l1 : Int} {W : World} (h : RdSl R_Task W W.heap.size L a cap) :
    Calls Tryz.prog 30 #[.slice a L.length cap, .agg #[.int .i64 l0, .int .i64 l1]] W (OfL L (l0, l1) W) := by
  have hn : L.length ≤ 9223372036854775807 := by have h1 := h.1; have h2 := h.2.1; unfold maxLen at h2; omega
  have H := Lib.hid h
  clear h
  obtain ⟨wa, hwa⟩ : ∃ w, w = W.alloc (.cells #[.int .i64 l0, .int .i64 l1] 67) := ⟨_, rfl⟩
  have HBA := Lib.hid (show Below W.heap.size W wa from by rw [hwa]; exact (Below.refl _ _).alloc (Nat.le_refl _) _)
  have HPA := Lib.hid (show Blk wa W.heap.size 67 #[.int .i64 l0, .int .i64 l1] from by rw [hwa]; exact Blk.new _ _ _)
  have HA := Lib.hid ((H.out.below R_Task_ok HBA.out).more R_Task_ok HBA.out.size)
  go_enter Tryz.func30, Tryz.ntmps30
  go_wp2_with fail
  rw [← hwa]
  clear hwa
  refine (tasks_spec HA.out).mono ?_
  intro e w1 h
  obtain ⟨rfl, hb⟩ := isB_elim h
  have HB1 := Lib.hid (HBA.out.trans (hb.mono HBA.out.size))
  have HP1 := Lib.hid (HPA.out.call hb)
  have HA1 := Lib.hid ((HA.out.below R_Task_ok hb).more R_Task_ok hb.size)
  clear h hb HPA HA
  cases hq : tasksB L with
  | false =>
    have HE := Lib.hid (liveOf_no (a := (l0, l1)) hq)
    clear hq
    go_wp2
    go_ret
    exact ⟨by rw [HE.out]; rfl, HB1.out⟩
  | true =>
    have HE := Lib.hid (liveOf_yes (a := (l0, l1)) hq)
    have HR := Lib.hid (tasksB_iff.1 hq)
    have hn96 : L.length ≤ 96 := HR.out.1
    clear hq
    go_wp2
    go_loopw [5, 6] (fun q i wr => ∃ k : Nat, k ≤ L.length ∧ i = .int .i64 k ∧ q = .int .i64 (liveTo L (l0, l1) k) ∧ Below w1.heap.size w1 wr) (fun _ i _ => L.length - (intOf i).toNat)
    case atStart => exact ⟨0, Nat.zero_le _, rfl, by rw [liveTo_zero]; rfl, Below.refl _ _⟩
    case round =>
      obtain ⟨k, hk, rfl, rfl, hB⟩ := hrel
      have HB := Lib.hid hB
      have HBW := Lib.hid (HB1.out.trans (hB.mono HB1.out.size))
      have hsz := hB.size
      by_cases hlt : k < L.length
      · skip
        obtain ⟨⟨⟨x0, x1⟩, x2, x3, x4, x5, x6, ⟨x7, x8⟩, x9, x10, x11, x12, M⟩, hx⟩ := el_some hlt
        have HX := Lib.hid hx
        obtain ⟨g, o, us, rfl, hg, hu, hr⟩ := (HA1.out.below R_Task_ok hB).at_ hx
        obtain ⟨ba, bc, rfl, k_M, b_x3⟩ := rd_Task hr
        have e0 : wr.cell? ⟨g, o + k * 14, none⟩ = some (.int .i64 x0) := by simpa [size_TaskS, Nat.add_assoc] using hu 0 _ rfl
        have e1 : wr.cell? ⟨g, o + k * 14 + 1, none⟩ = some (.int .i64 x1) := by simpa [size_TaskS, Nat.add_assoc] using hu 1 _ rfl
        have e2 : wr.cell? ⟨g, o + k * 14 + 2, none⟩ = some (.int .i64 x2) := by simpa [size_TaskS, Nat.add_assoc] using hu 2 _ rfl
        have e3 : wr.cell? ⟨g, o + k * 14 + 3, none⟩ = some (.string x3) := by simpa [size_TaskS, Nat.add_assoc] using hu 3 _ rfl
        have e4 : wr.cell? ⟨g, o + k * 14 + 4, none⟩ = some (.int .i64 x4) := by simpa [size_TaskS, Nat.add_assoc] using hu 4 _ rfl
        have e5 : wr.cell? ⟨g, o + k * 14 + 5, none⟩ = some (.int .i64 x5) := by simpa [size_TaskS, Nat.add_assoc] using hu 5 _ rfl
        have e6 : wr.cell? ⟨g, o + k * 14 + 6, none⟩ = some (.int .i64 x6) := by simpa [size_TaskS, Nat.add_assoc] using hu 6 _ rfl
        have e7 : wr.cell? ⟨g, o + k * 14 + 7, none⟩ = some (.int .i64 x7) := by simpa [size_TaskS, Nat.add_assoc] using hu 7 _ rfl
        have e8 : wr.cell? ⟨g, o + k * 14 + 8, none⟩ = some (.int .i64 x8) := by simpa [size_TaskS, Nat.add_assoc] using hu 8 _ rfl
        have e9 : wr.cell? ⟨g, o + k * 14 + 9, none⟩ = some (.int .i64 x9) := by simpa [size_TaskS, Nat.add_assoc] using hu 9 _ rfl
        have e10 : wr.cell? ⟨g, o + k * 14 + 10, none⟩ = some (.int .i64 x10) := by simpa [size_TaskS, Nat.add_assoc] using hu 10 _ rfl
        have e11 : wr.cell? ⟨g, o + k * 14 + 11, none⟩ = some (.int .i64 x11) := by simpa [size_TaskS, Nat.add_assoc] using hu 11 _ rfl
        have e12 : wr.cell? ⟨g, o + k * 14 + 12, none⟩ = some (.int .i64 x12) := by simpa [size_TaskS, Nat.add_assoc] using hu 12 _ rfl
        have e13 : wr.cell? ⟨g, o + k * 14 + 13, none⟩ = some (.slice ba M.length bc) := by simpa [size_TaskS, Nat.add_assoc] using hu 13 _ rfl
        have HPR := Lib.hid (HP1.out.call hB)
        have hi0 : (0 : Int) ≤ (k : Int) := Int.natCast_nonneg _
        have hi1 : (k : Int) < (L.length : Int) := by omega
        have hgl : g < wr.heap.size := Nat.lt_of_lt_of_le hg hsz
        have hle := liveTo_le (L := L) (a := (l0, l1)) k
        obtain ⟨n, hnn⟩ : ∃ n, liveTo L (l0, l1) k = n := ⟨_, rfl⟩
        have HNN := Lib.hid hnn
        rw [hnn] at hle
        rw [hnn]
        have hnw : IntKind.i64.wrap ((n : Int) + 1) = (n : Int) + 1 := IntWalk.i64_in _ (by omega)
        clear hnn
        obtain ⟨b, hb⟩ : ∃ b, decide (((x0, x1) : Int × Int) = (l0, l1)) = b := ⟨_, rfl⟩
        have hq := eql_lab x0 x1 l0 l1 b hb
        obtain ⟨c, hc⟩ : ∃ c, isB x11 1 3 = c := ⟨_, rfl⟩
        have HLV := Lib.hid (show liveB ((x0, x1), x2, x3, x4, x5, x6, (x7, x8), x9, x10, x11, x12, M) (l0, l1) = (b && c) from by rw [← hb, ← hc]; rfl)
        have HC := Lib.hid hc
        clear hu hr hg hB hx k_M hb hc
        cases b with
        | false =>
          have HT := Lib.hid (liveTo_no HX.out (by rw [HLV.out]; rfl))
          go_wp2_with fail
          refine wp_region_held_drew (S := (fun V => Below (wr).heap.size (wr) V)) (by kernel_rfl) ((Below.refl _ _).drew) (fun hHeld => ?_)
          refine tk 0 hHeld ?_
          refine tk 1 hHeld ?_
          refine tk 2 hHeld ?_
          refine tk 3 hHeld ?_
          refine tk 4 hHeld ?_ (hy := fun w hSw => by (try dsimp only at hSw); have k0 := (hSw.cell (p := ⟨g, o + k * 14, none⟩) hgl).trans e0; have k1 := (hSw.cell (p := ⟨g, o + k * 14 + 1, none⟩) hgl).trans e1; clear hSw; go_simp; try with_reducible rfl)
          refine tk 5 hHeld ?_ (hy := fun w hSw => by (try dsimp only at hSw); have k0 := (hSw.cell (p := ⟨W.heap.size, 0, none⟩) HPR.out.lt).trans (HPR.out.at_ 0 rfl); have k1 := (hSw.cell (p := ⟨W.heap.size, 1, none⟩) HPR.out.lt).trans (HPR.out.at_ 1 rfl); clear hSw; go_simp; try with_reducible rfl)
          refine tk 6 hHeld ?_
          refine tk 7 hHeld ?_
          refine tn 8 hHeld ?_
          refine tn 9 hHeld ?_
          refine tn 10 hHeld ?_
          refine tn 11 hHeld ?_
          refine tn 12 hHeld ?_
          refine tn 13 hHeld ?_
          refine tk 14 hHeld ?_
          refine rd0 ?_
          have HF := Lib.hid hHeld
          clear hHeld
          have HB9 := Lib.hid (HB.out.trans (HF.out.mono hsz))
          go_wp2
          go_roundw
          case rel => exact ⟨k + 1, by omega, by go_num, by first | (rw [HT.out, HNN.out]; done) | (rw [HT.out, HNN.out]; rfl) | (rw [HT.out, HNN.out]; go_num), by first | exact HB9.out | exact HB9.out.drew | exact bdrewN HB9.out _⟩
          case measure => simp [intOf]; omega
        | true =>
          cases c with
          | false =>
            have HT := Lib.hid (liveTo_no HX.out (by rw [HLV.out]; rfl))
            go_wp2_with fail
            refine wp_region_held_drew (S := (fun V => Below (wr).heap.size (wr) V)) (by kernel_rfl) ((Below.refl _ _).drew) (fun hHeld => ?_)
            refine tk 0 hHeld ?_
            refine tk 1 hHeld ?_
            refine tk 2 hHeld ?_
            refine tk 3 hHeld ?_
            refine tk 4 hHeld ?_ (hy := fun w hSw => by (try dsimp only at hSw); have k0 := (hSw.cell (p := ⟨g, o + k * 14, none⟩) hgl).trans e0; have k1 := (hSw.cell (p := ⟨g, o + k * 14 + 1, none⟩) hgl).trans e1; clear hSw; go_simp; try with_reducible rfl)
            refine tk 5 hHeld ?_ (hy := fun w hSw => by (try dsimp only at hSw); have k0 := (hSw.cell (p := ⟨W.heap.size, 0, none⟩) HPR.out.lt).trans (HPR.out.at_ 0 rfl); have k1 := (hSw.cell (p := ⟨W.heap.size, 1, none⟩) HPR.out.lt).trans (HPR.out.at_ 1 rfl); clear hSw; go_simp; try with_reducible rfl)
            refine tk 6 hHeld ?_
            refine tk 7 hHeld ?_
            refine tk 8 hHeld ?_
            refine tk 9 hHeld ?_
            refine tk 10 hHeld ?_
            refine tk 11 hHeld ?_
            refine tk 12 hHeld ?_ (hy := fun w hSw => by (try dsimp only at hSw); have k0 := (hSw.cell (p := ⟨g, o + k * 14 + 11, none⟩) hgl).trans e11; clear hSw; go_simp; try with_reducible rfl)
            refine rd1 13 (fun K hK => ?_)
            go_simp
            go_at_call 81
            refine (liveS_at _ HC.out _).mono ?_
            rintro e w3 ⟨rfl, hb⟩
            refine hK.out _ _ (hHeld.trans (hb.mono hHeld.size)) (fun hHeld => ?_)
            clear hK K hb
            refine tk 14 hHeld ?_
            refine rd0 ?_
            have HF := Lib.hid hHeld
            clear hHeld
            have HB9 := Lib.hid (HB.out.trans (HF.out.mono hsz))
            go_wp2
            go_roundw
            case rel => exact ⟨k + 1, by omega, by go_num, by first | (rw [HT.out, HNN.out]; done) | (rw [HT.out, HNN.out]; rfl) | (rw [HT.out, HNN.out]; go_num), by first | exact HB9.out | exact HB9.out.drew | exact bdrewN HB9.out _⟩
            case measure => simp [intOf]; omega
          | true =>
            have HT := Lib.hid (liveTo_yes HX.out (by rw [HLV.out]; rfl))
            go_wp2_with fail
            refine wp_region_held_drew (S := (fun V => Below (wr).heap.size (wr) V)) (by kernel_rfl) ((Below.refl _ _).drew) (fun hHeld => ?_)
            refine tk 0 hHeld ?_
            refine tk 1 hHeld ?_
            refine tk 2 hHeld ?_
            refine tk 3 hHeld ?_
            refine tk 4 hHeld ?_ (hy := fun w hSw => by (try dsimp only at hSw); have k0 := (hSw.cell (p := ⟨g, o + k * 14, none⟩) hgl).trans e0; have k1 := (hSw.cell (p := ⟨g, o + k * 14 + 1, none⟩) hgl).trans e1; clear hSw; go_simp; try with_reducible rfl)
            refine tk 5 hHeld ?_ (hy := fun w hSw => by (try dsimp only at hSw); have k0 := (hSw.cell (p := ⟨W.heap.size, 0, none⟩) HPR.out.lt).trans (HPR.out.at_ 0 rfl); have k1 := (hSw.cell (p := ⟨W.heap.size, 1, none⟩) HPR.out.lt).trans (HPR.out.at_ 1 rfl); clear hSw; go_simp; try with_reducible rfl)
            refine tk 6 hHeld ?_
            refine tk 7 hHeld ?_
            refine tk 8 hHeld ?_
            refine tk 9 hHeld ?_
            refine tk 10 hHeld ?_
            refine tk 11 hHeld ?_
            refine tk 12 hHeld ?_ (hy := fun w hSw => by (try dsimp only at hSw); have k0 := (hSw.cell (p := ⟨g, o + k * 14 + 11, none⟩) hgl).trans e11; clear hSw; go_simp; try with_reducible rfl)
            refine rd1 13 (fun K hK => ?_)
            go_simp
            go_at_call 81
            refine (liveS_at _ HC.out _).mono ?_
            rintro e w3 ⟨rfl, hb⟩
            refine hK.out _ _ (hHeld.trans (hb.mono hHeld.size)) (fun hHeld => ?_)
            clear hK K hb
            refine tk 14 hHeld ?_
            refine rd0 ?_
            have HF := Lib.hid hHeld
            clear hHeld
            have HB9 := Lib.hid (HB.out.trans (HF.out.mono hsz))
            go_wp2
            go_roundw
            case rel => exact ⟨k + 1, by omega, by go_num, by first | (rw [HT.out, HNN.out]; done) | (rw [HT.out, HNN.out]; rfl) | (rw [HT.out, HNN.out]; go_num), by first | exact HB9.out | exact HB9.out.drew | exact bdrewN HB9.out _⟩
            case measure => simp [intOf]; omega
      · have hdl : decide ((k : Int) < (L.length : Int)) = false := decide_eq_false (by omega)
        obtain rfl : k = L.length := by omega
        clear hB
        go_wp2
        go_ret
        exact ⟨by rw [HE.out]; rfl, HBW.out⟩
end Go.Proofs.YtelhmacfljffhaaGreat.RepC
end
section
namespace Go.Proofs.YtelhmacfljffhaaGreat.RepC
open Go.RowKit RowC ValC SpanC KeptC NameC CfC
set_option linter.unusedVariables false
set_option linter.unusedSimpArgs false
def endT (x : D_Task) : Int := tStart x + 1 + tLong x
def startT (now : Int) (x : D_Task) : Prop := (tState x = 2 → tStart x ≤ now ∧ now < endT x) ∧ (tState x ≠ 2 → 0 < (tNodes x).length → now < tStart x ∧ tStart x ≤ now + 40)
def fitT (C : List (List D_Label)) (now : Int) (x : D_Task) : Prop := tNeed x ≤ (nodesOf C (tLab x)).length ∧ tBorn x ≤ now ∧ (∀ n ∈ tNodes x, n ∈ nodesOf C (tLab x)) ∧ startT now x
def takenT (T : List D_Task) (i : Nat) (n : Int) : Prop := ∃ j x, j < i ∧ T[j]? = some x ∧ tState x = 2 ∧ n ∈ tNodes x
def oneT (T : List D_Task) (i : Nat) (x : D_Task) : Prop := tState x = 2 → ∀ n ∈ tNodes x, ¬ takenT T i n
def okY (C : List (List D_Label)) (now : Int) (T : List D_Task) (i : Nat) (x : D_Task) : Prop := fitT C now x ∧ oneT T i x
def fitTo (C : List (List D_Label)) (now : Int) (T : List D_Task) (k : Nat) : Prop := ∀ i x, i < k → T[i]? = some x → okY C now T i x
def usesIn (C : List (List D_Label)) (U : List D_Use) : Prop := ∀ (i : Nat) (u : D_Use), U[i]? = some u → u.1 ∈ labsOf C
def quotasIn (C : List (List D_Label)) (Q : List D_Quota) (T : List D_Task) : Prop := ∀ (i : Nat) (a : D_Label), (labsOf C)[i]? = some a → (liveTo T a T.length : Int) ≤ quotaIn Q a
def YardR : D_Yard → Prop
  | ((C, P, Q, hf), N, T, U, now) => isB now 0 999900 = true ∧ CfgR C P Q hf ∧ NdsR N ∧ N.length = C.length ∧ TasksR T ∧ UsesR U ∧ fitTo C now T T.length ∧ usesIn C U ∧ quotasIn C Q T
open Classical in
noncomputable def yardB (y : D_Yard) : Bool := decide (YardR y)
open Classical in
theorem yardB_iff {y : D_Yard} : yardB y = true ↔ YardR y := by unfold yardB; simp
theorem fitTo_zero {C : List (List D_Label)} {now : Int} {T : List D_Task} : fitTo C now T 0 := fun i x h => absurd h (Nat.not_lt_zero _)
theorem fitTo_step {C : List (List D_Label)} {now : Int} {T : List D_Task} {k : Nat} {x : D_Task} (h : fitTo C now T k) (hx : T[k]? = some x) (hk : okY C now T k x) : fitTo C now T (k + 1) := fun i y hi hy => by
  rcases Nat.lt_succ_iff_lt_or_eq.1 hi with h1 | h1
  · exact h i y h1 hy
  · subst h1; rw [hx] at hy; cases hy; exact hk
theorem takenT_zero {T : List D_Task} {n : Int} : ¬ takenT T 0 n := fun ⟨j, x, h, _⟩ => absurd h (Nat.not_lt_zero _)
theorem takenT_step {T : List D_Task} {k : Nat} {x : D_Task} {n : Int} (hx : T[k]? = some x) : takenT T (k + 1) n ↔ takenT T k n ∨ (tState x = 2 ∧ n ∈ tNodes x) := by
  constructor
  · rintro ⟨j, y, hj, hy, h1, h2⟩
    rcases Nat.lt_succ_iff_lt_or_eq.1 hj with h | h
    · exact .inl ⟨j, y, h, hy, h1, h2⟩
    · subst h; rw [hx] at hy; cases hy; exact .inr ⟨h1, h2⟩
  · rintro (⟨j, y, hj, hy, h1, h2⟩ | ⟨h1, h2⟩)
    · exact ⟨j, y, by omega, hy, h1, h2⟩
    · exact ⟨k, x, by omega, hx, h1, h2⟩
theorem nodesR_once {L : List Int} (h : NodesR L) {i j : Nat} {x : Int} (hi : L[i]? = some x) (hj : L[j]? = some x) : i = j := by
  have key : ∀ (d i : Nat) (x y : Int), L[i]? = some x → L[i + d + 1]? = some y → x < y := by
    intro d
    induction d with
    | zero =>
      intro i x y hx hy
      have hl := (List.getElem?_eq_some_iff.1 hy).1
      have := (h (i + 1) hl y hy).2 (by omega) x (by rw [Nat.add_sub_cancel]; exact hx)
      exact this
    | succ d ih =>
      intro i x y hx hy
      have hl := (List.getElem?_eq_some_iff.1 hy).1
      obtain ⟨z, hz⟩ : ∃ z, L[i + d + 1]? = some z := ⟨L[i + d + 1]'(by omega), List.getElem?_eq_getElem (by omega)⟩
      have h1 := ih i x z hx hz
      have h2 := (h (i + (d + 1) + 1) hl y hy).2 (by omega) z (by rw [Nat.add_sub_cancel]; exact hz)
      omega
  rcases Nat.lt_trichotomy i j with h1 | h1 | h1
  · have := key (j - i - 1) i x x hi (by rw [show i + (j - i - 1) + 1 = j by omega]; exact hj)
    omega
  · exact h1
  · have := key (i - j - 1) j x x hj (by rw [show j + (i - j - 1) + 1 = i by omega]; exact hi)
    omega
theorem nodesR_rng {L : List Int} (h : NodesR L) {i : Nat} {x : Int} (hi : L[i]? = some x) : 0 ≤ x ∧ x ≤ 5 := by
  have hl := (List.getElem?_eq_some_iff.1 hi).1
  have key : ∀ (i : Nat) (x : Int), L[i]? = some x → (i : Int) ≤ x ∧ x ≤ 5 := by
    intro i
    induction i with
    | zero => intro x hx; exact (isB_iff _ _ _).1 (h 0 (List.getElem?_eq_some_iff.1 hx).1 x hx).1 |> fun h => ⟨by omega, h.2⟩
    | succ i ih =>
      intro x hx
      have hl := (List.getElem?_eq_some_iff.1 hx).1
      obtain ⟨z, hz⟩ : ∃ z, L[i]? = some z := ⟨L[i]'(by omega), List.getElem?_eq_getElem (by omega)⟩
      have h1 := ih z hz
      have h2 := (h (i + 1) hl x hx).2 (by omega) z (by rw [Nat.add_sub_cancel]; exact hz)
      have h3 := (isB_iff _ _ _).1 (h (i + 1) hl x hx).1
      omega
  have := key i x hi
  omega
theorem mem_nodesOf {C : List (List D_Label)} {a : D_Label} {n : Int} : n ∈ nodesOf C a ↔ ∃ (k : Nat) (x : List D_Label), C[k]? = some x ∧ n = (k : Int) ∧ a ∈ x := by
  unfold nodesOf nodesTo
  simp only [List.mem_map, List.mem_filter, List.mem_range, decide_eq_true_eq]
  constructor
  · rintro ⟨k, ⟨hk, x, hx, ha⟩, rfl⟩
    exact ⟨k, x, hx, rfl, ha⟩
  · rintro ⟨k, x, hx, rfl, ha⟩
    exact ⟨k, ⟨(List.getElem?_eq_some_iff.1 hx).1, x, hx, ha⟩, rfl⟩
end Go.Proofs.YtelhmacfljffhaaGreat.RepC
end
section
namespace Go.Proofs.YtelhmacfljffhaaGreat.RepC
open Go.RowKit RowC ValC SpanC KeptC NameC CfC
set_option linter.unusedVariables false
set_option linter.unusedSimpArgs false
set_option maxRecDepth 100000 in
set_option maxHeartbeats 1600000 in
theorem waitsI_at {x0 x1 x2 : Int} {x3 : ByteArray} {x4 x5 x6 x7 x8 x9 x10 x11 x12 : Int} {M : List Int} {ma : Option Addr} {mc : Nat} {b : Bool} (hb : (x11 == 1) = b) (W : World) : Calls Tryz.prog 191 #[.agg #[.int .i64 x0, .int .i64 x1, .int .i64 x2, .string x3, .int .i64 x4, .int .i64 x5, .int .i64 x6, .int .i64 x7, .int .i64 x8, .int .i64 x9, .int .i64 x10, .int .i64 x11, .int .i64 x12, .slice ma M.length mc]] W fun e w' => e = .returned (.bool b) ∧ Below W.heap.size W w' := by
  have HB0 := Lib.hid (show Below W.heap.size W (W.alloc (.cells #[.int .i64 x0, .int .i64 x1, .int .i64 x2, .string x3, .int .i64 x4, .int .i64 x5, .int .i64 x6, .int .i64 x7, .int .i64 x8, .int .i64 x9, .int .i64 x10, .int .i64 x11, .int .i64 x12, .slice ma M.length mc] 70)) from (Below.refl _ _).alloc (Nat.le_refl _) _)
  go_enter Tryz.func191, Tryz.ntmps191
  go_wp2
  go_ret
  exact ⟨by first | rfl | (rw [← hb]; rfl) | simp [hb], HB0.out⟩
set_option maxRecDepth 100000 in
set_option maxHeartbeats 1600000 in
theorem runsI_at {x0 x1 x2 : Int} {x3 : ByteArray} {x4 x5 x6 x7 x8 x9 x10 x11 x12 : Int} {M : List Int} {ma : Option Addr} {mc : Nat} {b : Bool} (hb : (x11 == 2) = b) (W : World) : Calls Tryz.prog 103 #[.agg #[.int .i64 x0, .int .i64 x1, .int .i64 x2, .string x3, .int .i64 x4, .int .i64 x5, .int .i64 x6, .int .i64 x7, .int .i64 x8, .int .i64 x9, .int .i64 x10, .int .i64 x11, .int .i64 x12, .slice ma M.length mc]] W fun e w' => e = .returned (.bool b) ∧ Below W.heap.size W w' := by
  have HB0 := Lib.hid (show Below W.heap.size W (W.alloc (.cells #[.int .i64 x0, .int .i64 x1, .int .i64 x2, .string x3, .int .i64 x4, .int .i64 x5, .int .i64 x6, .int .i64 x7, .int .i64 x8, .int .i64 x9, .int .i64 x10, .int .i64 x11, .int .i64 x12, .slice ma M.length mc] 70)) from (Below.refl _ _).alloc (Nat.le_refl _) _)
  go_enter Tryz.func103, Tryz.ntmps103
  go_wp2
  go_ret
  exact ⟨by first | rfl | (rw [← hb]; rfl) | simp [hb], HB0.out⟩
set_option maxRecDepth 100000 in
set_option maxHeartbeats 1600000 in
theorem heldI_at {x0 x1 x2 : Int} {x3 : ByteArray} {x4 x5 x6 x7 x8 x9 x10 x11 x12 : Int} {M : List Int} {ma : Option Addr} {mc : Nat} {b : Bool} (hb : (x11 == 3) = b) (W : World) : Calls Tryz.prog 192 #[.agg #[.int .i64 x0, .int .i64 x1, .int .i64 x2, .string x3, .int .i64 x4, .int .i64 x5, .int .i64 x6, .int .i64 x7, .int .i64 x8, .int .i64 x9, .int .i64 x10, .int .i64 x11, .int .i64 x12, .slice ma M.length mc]] W fun e w' => e = .returned (.bool b) ∧ Below W.heap.size W w' := by
  have HB0 := Lib.hid (show Below W.heap.size W (W.alloc (.cells #[.int .i64 x0, .int .i64 x1, .int .i64 x2, .string x3, .int .i64 x4, .int .i64 x5, .int .i64 x6, .int .i64 x7, .int .i64 x8, .int .i64 x9, .int .i64 x10, .int .i64 x11, .int .i64 x12, .slice ma M.length mc] 70)) from (Below.refl _ _).alloc (Nat.le_refl _) _)
  go_enter Tryz.func192, Tryz.ntmps192
  go_wp2
  go_ret
  exact ⟨by first | rfl | (rw [← hb]; rfl) | simp [hb], HB0.out⟩
set_option maxRecDepth 100000 in
set_option maxHeartbeats 1600000 in
theorem endI_at {x0 x1 x2 : Int} {x3 : ByteArray} {x4 x5 x6 x7 x8 x9 x10 x11 x12 : Int} {M : List Int} {ma : Option Addr} {mc : Nat} {W : World} (h0 : 0 ≤ x12 ∧ x12 ≤ 1000000) (h1 : 1 ≤ x5 ∧ x5 ≤ 20) : Calls Tryz.prog 159 #[.agg #[.int .i64 x0, .int .i64 x1, .int .i64 x2, .string x3, .int .i64 x4, .int .i64 x5, .int .i64 x6, .int .i64 x7, .int .i64 x8, .int .i64 x9, .int .i64 x10, .int .i64 x11, .int .i64 x12, .slice ma M.length mc]] W fun e w' => e = .returned (.int .i64 (x12 + 1 + x5)) ∧ Below W.heap.size W w' := by
  have HB0 := Lib.hid (show Below W.heap.size W (W.alloc (.cells #[.int .i64 x0, .int .i64 x1, .int .i64 x2, .string x3, .int .i64 x4, .int .i64 x5, .int .i64 x6, .int .i64 x7, .int .i64 x8, .int .i64 x9, .int .i64 x10, .int .i64 x11, .int .i64 x12, .slice ma M.length mc] 70)) from (Below.refl _ _).alloc (Nat.le_refl _) _)
  have e1 : IntKind.i64.wrap (x12 + 1) = x12 + 1 := IntWalk.i64_in _ (by omega)
  have e2 : IntKind.i64.wrap (x12 + 1 + x5) = x12 + 1 + x5 := IntWalk.i64_in _ (by omega)
  go_enter Tryz.func159, Tryz.ntmps159
  go_wp2
  go_ret
  exact ⟨by first | rfl | (simp [e1, e2]; done) | (rw [e1, e2]), HB0.out⟩
set_option maxRecDepth 100000 in
set_option maxHeartbeats 1600000 in
theorem placeI_at {x0 x1 x2 : Int} {x3 : ByteArray} {x4 x5 x6 x7 x8 x9 x10 x11 x12 : Int} {M : List Int} {ma : Option Addr} {mc : Nat} {b : Bool} (hb : decide (0 < M.length) = b) (W : World) : Calls Tryz.prog 160 #[.agg #[.int .i64 x0, .int .i64 x1, .int .i64 x2, .string x3, .int .i64 x4, .int .i64 x5, .int .i64 x6, .int .i64 x7, .int .i64 x8, .int .i64 x9, .int .i64 x10, .int .i64 x11, .int .i64 x12, .slice ma M.length mc]] W fun e w' => e = .returned (.bool b) ∧ Below W.heap.size W w' := by
  have HB0 := Lib.hid (show Below W.heap.size W (W.alloc (.cells #[.int .i64 x0, .int .i64 x1, .int .i64 x2, .string x3, .int .i64 x4, .int .i64 x5, .int .i64 x6, .int .i64 x7, .int .i64 x8, .int .i64 x9, .int .i64 x10, .int .i64 x11, .int .i64 x12, .slice ma M.length mc] 70)) from (Below.refl _ _).alloc (Nat.le_refl _) _)
  have hb' : decide ((0 : Int) < (M.length : Int)) = b := by rw [← hb]; congr 1; apply propext; omega
  go_enter Tryz.func160, Tryz.ntmps160
  go_wp2
  go_ret
  exact ⟨by first | rfl | (rw [hb']; done) | (rw [hb]; done) | simp [hb, hb'], HB0.out⟩
set_option maxRecDepth 100000 in
set_option maxHeartbeats 1600000 in
theorem liveI_at {x0 x1 x2 : Int} {x3 : ByteArray} {x4 x5 x6 x7 x8 x9 x10 x11 x12 : Int} {M : List Int} {ma : Option Addr} {mc : Nat} {W : World} : Calls Tryz.prog 161 #[.agg #[.int .i64 x0, .int .i64 x1, .int .i64 x2, .string x3, .int .i64 x4, .int .i64 x5, .int .i64 x6, .int .i64 x7, .int .i64 x8, .int .i64 x9, .int .i64 x10, .int .i64 x11, .int .i64 x12, .slice ma M.length mc]] W fun e w' => e = .returned (.bool (isB x11 1 3)) ∧ Below W.heap.size W w' := by
  obtain ⟨w0, hw0⟩ : ∃ w, w = W.alloc (.cells #[.int .i64 x0, .int .i64 x1, .int .i64 x2, .string x3, .int .i64 x4, .int .i64 x5, .int .i64 x6, .int .i64 x7, .int .i64 x8, .int .i64 x9, .int .i64 x10, .int .i64 x11, .int .i64 x12, .slice ma M.length mc] 70) := ⟨_, rfl⟩
  have HB0 := Lib.hid (show Below W.heap.size W w0 from by rw [hw0]; exact (Below.refl _ _).alloc (Nat.le_refl _) _)
  have X0 := Lib.hid (show Blk w0 W.heap.size 70 #[.int .i64 x0, .int .i64 x1, .int .i64 x2, .string x3, .int .i64 x4, .int .i64 x5, .int .i64 x6, .int .i64 x7, .int .i64 x8, .int .i64 x9, .int .i64 x10, .int .i64 x11, .int .i64 x12, .slice ma M.length mc] from by rw [hw0]; exact Blk.new _ _ _)
  go_enter Tryz.func161, Tryz.ntmps161
  go_wp2_with fail
  rw [← hw0]
  clear hw0
  obtain ⟨b0, hb0⟩ : ∃ b, (x11 == 1) = b := ⟨_, rfl⟩
  refine (waitsI_at hb0 _).mono ?_
  rintro e w1 ⟨rfl, hb⟩
  have HB1 := Lib.hid (HB0.out.trans (hb.mono HB0.out.size))
  have X1 := Lib.hid (X0.out.call hb)
  clear hb
  have HE0 := Lib.hid hb0
  clear hb0
  cases b0 with
  | true =>
    have HV := Lib.hid (show (isB x11 1 3) = true from by have h0 := HE0.out; simp only [beq_iff_eq, beq_eq_false_iff_ne, ne_eq] at *; rw [isB_iff]; omega)
    go_wp2
    go_ret
    exact ⟨by first | (rw [HV.out]; done) | (rw [HV.out]; rfl), HB1.out⟩
  | false =>
    have p0 := X1.out.at_ 0 rfl
    have p1 := X1.out.at_ 1 rfl
    have p2 := X1.out.at_ 2 rfl
    have p3 := X1.out.at_ 3 rfl
    have p4 := X1.out.at_ 4 rfl
    have p5 := X1.out.at_ 5 rfl
    have p6 := X1.out.at_ 6 rfl
    have p7 := X1.out.at_ 7 rfl
    have p8 := X1.out.at_ 8 rfl
    have p9 := X1.out.at_ 9 rfl
    have p10 := X1.out.at_ 10 rfl
    have p11 := X1.out.at_ 11 rfl
    have p12 := X1.out.at_ 12 rfl
    have p13 := X1.out.at_ 13 rfl
    obtain ⟨b1, hb1⟩ : ∃ b, (x11 == 2) = b := ⟨_, rfl⟩
    go_wp2_with fail
    refine (runsI_at hb1 _).mono ?_
    rintro e w2 ⟨rfl, hb⟩
    have HB2 := Lib.hid (HB1.out.trans (hb.mono HB1.out.size))
    have X2 := Lib.hid (X1.out.call hb)
    clear hb
    clear p0 p1 p2 p3 p4 p5 p6 p7 p8 p9 p10 p11 p12 p13
    have HE1 := Lib.hid hb1
    clear hb1
    cases b1 with
    | true =>
      have HV := Lib.hid (show (isB x11 1 3) = true from by have h0 := HE0.out; have h1 := HE1.out; simp only [beq_iff_eq, beq_eq_false_iff_ne, ne_eq] at *; rw [isB_iff]; omega)
      go_wp2
      go_ret
      exact ⟨by first | (rw [HV.out]; done) | (rw [HV.out]; rfl), HB2.out⟩
    | false =>
      have p0 := X2.out.at_ 0 rfl
      have p1 := X2.out.at_ 1 rfl
      have p2 := X2.out.at_ 2 rfl
      have p3 := X2.out.at_ 3 rfl
      have p4 := X2.out.at_ 4 rfl
      have p5 := X2.out.at_ 5 rfl
      have p6 := X2.out.at_ 6 rfl
      have p7 := X2.out.at_ 7 rfl
      have p8 := X2.out.at_ 8 rfl
      have p9 := X2.out.at_ 9 rfl
      have p10 := X2.out.at_ 10 rfl
      have p11 := X2.out.at_ 11 rfl
      have p12 := X2.out.at_ 12 rfl
      have p13 := X2.out.at_ 13 rfl
      obtain ⟨b2, hb2⟩ : ∃ b, (x11 == 3) = b := ⟨_, rfl⟩
      go_wp2_with fail
      refine (heldI_at hb2 _).mono ?_
      rintro e w3 ⟨rfl, hb⟩
      have HB3 := Lib.hid (HB2.out.trans (hb.mono HB2.out.size))
      have X3 := Lib.hid (X2.out.call hb)
      clear hb
      clear p0 p1 p2 p3 p4 p5 p6 p7 p8 p9 p10 p11 p12 p13
      have HE2 := Lib.hid hb2
      clear hb2
      cases b2 with
      | true =>
        have HV := Lib.hid (show (isB x11 1 3) = true from by have h0 := HE0.out; have h1 := HE1.out; have h2 := HE2.out; simp only [beq_iff_eq, beq_eq_false_iff_ne, ne_eq] at *; rw [isB_iff]; omega)
        go_wp2
        go_ret
        exact ⟨by first | (rw [HV.out]; done) | (rw [HV.out]; rfl), HB3.out⟩
      | false =>
        have HV := Lib.hid (show (isB x11 1 3) = false from by have h0 := HE0.out; have h1 := HE1.out; have h2 := HE2.out; simp only [beq_iff_eq, beq_eq_false_iff_ne, ne_eq] at *; rw [Bool.eq_false_iff, ne_eq, isB_iff]; omega)
        go_wp2
        go_ret
        exact ⟨by first | (rw [HV.out]; done) | (rw [HV.out]; rfl), HB3.out⟩
set_option maxRecDepth 100000 in
set_option maxHeartbeats 1600000 in
theorem index_int {L : List Int} {a : Option Addr} {cap : Nat} {n : Int} {W : World} (h : RdSl I W W.heap.size L a cap) :
    Calls Tryz.prog 190 #[.slice a L.length cap, .int .i64 n] W (fun e w' => ∃ i : Int, e = .returned (.int .i64 i) ∧ (0 ≤ i ↔ n ∈ L) ∧ Below W.heap.size W w') := by
  have hn : L.length ≤ 9223372036854775807 := by have h1 := h.1; have h2 := h.2.1; unfold maxLen at h2; omega
  have H := Lib.hid h
  clear h
  go_enter Tryz.func190, Tryz.ntmps190
  go_wp2
  go_loopw [8] (fun i wr => ∃ k : Nat, k ≤ L.length ∧ i = .int .i64 k ∧ Hid (n ∉ L.take k) ∧ wr = W) (fun i _ => L.length - (intOf i).toNat)
  case atStart => exact ⟨0, Nat.zero_le _, rfl, Lib.hid (by simp), rfl⟩
  case round =>
    obtain ⟨k, hk, rfl, HA, rfl⟩ := hrel
    by_cases hlt : k < L.length
    · have hdl : decide ((k : Int) < (L.length : Int)) = true := decide_eq_true (by omega)
      obtain ⟨x, hx⟩ := el_some hlt
      have HX := Lib.hid hx
      obtain ⟨g, o, us, rfl, hg, hu, hr⟩ := H.out.at_ hx
      obtain rfl : us = [_] := hr
      have e0 : wr.cell? ⟨g, o + k, none⟩ = some (.int .i64 x) := by simpa [show I.size = 1 from rfl] using hu 0 _ rfl
      have hi0 : (0 : Int) ≤ (k : Int) := Int.natCast_nonneg _
      have hi1 : (k : Int) < (L.length : Int) := by omega
      obtain ⟨b, hb⟩ : ∃ b, (n == x) = b := ⟨_, rfl⟩
      have HE := Lib.hid hb
      clear hx hu hg
      cases b with
      | true =>
        have HY := Lib.hid (show n ∈ L from by have := beq_iff_eq.1 HE.out; subst this; exact List.mem_of_getElem? HX.out)
        go_wp2
        go_ret
        exact ⟨_, rfl, ⟨fun _ => HY.out, fun _ => hi0⟩, Below.refl _ _⟩
      | false =>
        have HC := Lib.hid (show n ∉ L.take (k + 1) from by
          rw [List.take_add_one, HX.out]
          have h1 := HA.out
          have h2 := beq_eq_false_iff_ne.1 HE.out
          simp only [Option.toList_some, List.mem_append, List.mem_singleton, not_or]
          exact ⟨h1, h2⟩)
        go_wp2
        go_roundw
        case rel => exact ⟨k + 1, by omega, by go_num, HC, by first | trivial | rfl⟩
        case measure => simp [intOf]; omega
    · have hdl : decide ((k : Int) < (L.length : Int)) = false := decide_eq_false (by omega)
      have HN := Lib.hid (show n ∉ L from by have h := HA.out; rw [List.take_of_length_le (by omega)] at h; exact h)
      go_wp2
      go_ret
      exact ⟨_, rfl, ⟨fun h => by omega, fun h => absurd h HN.out⟩, Below.refl _ _⟩
set_option maxRecDepth 100000 in
set_option maxHeartbeats 1600000 in
theorem contains_int {L : List Int} {a : Option Addr} {cap : Nat} {n : Int} {W : World} (h : RdSl I W W.heap.size L a cap) :
    Calls Tryz.prog 158 #[.slice a L.length cap, .int .i64 n] W (ResB (n ∈ L) W) := by
  go_enter Tryz.func158, Tryz.ntmps158
  go_wp2_with fail
  refine (index_int h).mono ?_
  rintro e w1 ⟨i, rfl, hi, hb⟩
  have HB1 := Lib.hid hb
  have HI := Lib.hid hi
  clear h hi hb
  by_cases h0 : 0 ≤ i
  · have hd : decide (0 ≤ i) = true := decide_eq_true h0
    have HY := Lib.hid (HI.out.1 h0)
    clear h0
    go_wp2
    go_ret
    exact resB_yes HY.out HB1.out
  · have hd : decide (0 ≤ i) = false := decide_eq_false h0
    have HY := Lib.hid (show n ∉ L from fun h => h0 (HI.out.2 h))
    clear h0
    go_wp2
    go_ret
    exact resB_no HY.out HB1.out
set_option maxRecDepth 100000 in
set_option maxHeartbeats 3200000 in
theorem livein_impl {L : List D_Task} {a : Option Addr} {cap : Nat} {l0 l1 : Int} {W : World} (hn96 : L.length ≤ 96) (h : RdSl R_Task W W.heap.size L a cap) :
    Calls Tryz.prog 104 #[.slice a L.length cap, .agg #[.int .i64 l0, .int .i64 l1]] W (IsI (liveTo L (l0, l1) L.length : Nat) W) := by
  have H := Lib.hid h
  clear h
  obtain ⟨wa, hwa⟩ : ∃ w, w = W.alloc (.cells #[.int .i64 l0, .int .i64 l1] 67) := ⟨_, rfl⟩
  have HBA := Lib.hid (show Below W.heap.size W wa from by rw [hwa]; exact (Below.refl _ _).alloc (Nat.le_refl _) _)
  have HPA := Lib.hid (show Blk wa W.heap.size 67 #[.int .i64 l0, .int .i64 l1] from by rw [hwa]; exact Blk.new _ _ _)
  have HA := Lib.hid ((H.out.below R_Task_ok HBA.out).more R_Task_ok HBA.out.size)
  go_enter Tryz.func104, Tryz.ntmps104
  go_wp2_with fail
  rw [← hwa]
  clear hwa
  go_loopw [5, 10] (fun q i wr => ∃ k : Nat, k ≤ L.length ∧ i = .int .i64 k ∧ q = .int .i64 (liveTo L (l0, l1) k) ∧ Below wa.heap.size wa wr) (fun _ i _ => L.length - (intOf i).toNat)
  case atStart => exact ⟨0, Nat.zero_le _, rfl, by rw [liveTo_zero]; rfl, Below.refl _ _⟩
  case round =>
      obtain ⟨k, hk, rfl, rfl, hB⟩ := hrel
      have HB := Lib.hid hB
      have HBW := Lib.hid (HBA.out.trans (hB.mono HBA.out.size))
      have hsz := hB.size
      by_cases hlt : k < L.length
      · have hdl : decide ((k : Int) < (L.length : Int)) = true := decide_eq_true (by omega)
        obtain ⟨⟨⟨x0, x1⟩, x2, x3, x4, x5, x6, ⟨x7, x8⟩, x9, x10, x11, x12, M⟩, hx⟩ := el_some hlt
        have HX := Lib.hid hx
        obtain ⟨g, o, us, rfl, hg, hu, hr⟩ := (HA.out.below R_Task_ok hB).at_ hx
        obtain ⟨ma, mc, rfl, k_M, b_x3⟩ := rd_Task hr
        have e0 : wr.cell? ⟨g, o + k * 14, none⟩ = some (.int .i64 x0) := by simpa [size_TaskS, Nat.add_assoc] using hu 0 _ rfl
        have e1 : wr.cell? ⟨g, o + k * 14 + 1, none⟩ = some (.int .i64 x1) := by simpa [size_TaskS, Nat.add_assoc] using hu 1 _ rfl
        have e2 : wr.cell? ⟨g, o + k * 14 + 2, none⟩ = some (.int .i64 x2) := by simpa [size_TaskS, Nat.add_assoc] using hu 2 _ rfl
        have e3 : wr.cell? ⟨g, o + k * 14 + 3, none⟩ = some (.string x3) := by simpa [size_TaskS, Nat.add_assoc] using hu 3 _ rfl
        have e4 : wr.cell? ⟨g, o + k * 14 + 4, none⟩ = some (.int .i64 x4) := by simpa [size_TaskS, Nat.add_assoc] using hu 4 _ rfl
        have e5 : wr.cell? ⟨g, o + k * 14 + 5, none⟩ = some (.int .i64 x5) := by simpa [size_TaskS, Nat.add_assoc] using hu 5 _ rfl
        have e6 : wr.cell? ⟨g, o + k * 14 + 6, none⟩ = some (.int .i64 x6) := by simpa [size_TaskS, Nat.add_assoc] using hu 6 _ rfl
        have e7 : wr.cell? ⟨g, o + k * 14 + 7, none⟩ = some (.int .i64 x7) := by simpa [size_TaskS, Nat.add_assoc] using hu 7 _ rfl
        have e8 : wr.cell? ⟨g, o + k * 14 + 8, none⟩ = some (.int .i64 x8) := by simpa [size_TaskS, Nat.add_assoc] using hu 8 _ rfl
        have e9 : wr.cell? ⟨g, o + k * 14 + 9, none⟩ = some (.int .i64 x9) := by simpa [size_TaskS, Nat.add_assoc] using hu 9 _ rfl
        have e10 : wr.cell? ⟨g, o + k * 14 + 10, none⟩ = some (.int .i64 x10) := by simpa [size_TaskS, Nat.add_assoc] using hu 10 _ rfl
        have e11 : wr.cell? ⟨g, o + k * 14 + 11, none⟩ = some (.int .i64 x11) := by simpa [size_TaskS, Nat.add_assoc] using hu 11 _ rfl
        have e12 : wr.cell? ⟨g, o + k * 14 + 12, none⟩ = some (.int .i64 x12) := by simpa [size_TaskS, Nat.add_assoc] using hu 12 _ rfl
        have e13 : wr.cell? ⟨g, o + k * 14 + 13, none⟩ = some (.slice ma M.length mc) := by simpa [size_TaskS, Nat.add_assoc] using hu 13 _ rfl
        have HPR := Lib.hid (HPA.out.call hB)
        have hi0 : (0 : Int) ≤ (k : Int) := Int.natCast_nonneg _
        have hi1 : (k : Int) < (L.length : Int) := by omega
        have hle := liveTo_le (L := L) (a := (l0, l1)) k
        obtain ⟨n, hnn⟩ : ∃ n, liveTo L (l0, l1) k = n := ⟨_, rfl⟩
        have HNN := Lib.hid hnn
        rw [hnn] at hle
        rw [hnn]
        have hnw : IntKind.i64.wrap ((n : Int) + 1) = (n : Int) + 1 := IntWalk.i64_in _ (by omega)
        clear hnn
        obtain ⟨b, hb⟩ : ∃ b, decide (((x0, x1) : Int × Int) = (l0, l1)) = b := ⟨_, rfl⟩
        have hq := eql_lab x0 x1 l0 l1 b hb
        obtain ⟨c, hc⟩ : ∃ c, isB x11 1 3 = c := ⟨_, rfl⟩
        have HLV := Lib.hid (show liveB ((x0, x1), x2, x3, x4, x5, x6, (x7, x8), x9, x10, x11, x12, M) (l0, l1) = (b && c) from by rw [← hb, ← hc]; rfl)
        have HC := Lib.hid hc
        clear hu hr hg hB hx k_M hb hc
        obtain ⟨w2, hw2⟩ : ∃ w, w = wr.alloc (.cells #[.int .i64 x0, .int .i64 x1, .int .i64 x2, .string x3, .int .i64 x4, .int .i64 x5, .int .i64 x6, .int .i64 x7, .int .i64 x8, .int .i64 x9, .int .i64 x10, .int .i64 x11, .int .i64 x12, .slice ma M.length mc] 70) := ⟨_, rfl⟩
        have hb2 : Below wr.heap.size wr w2 := by rw [hw2]; exact (Below.refl _ _).alloc (Nat.le_refl _) _
        have HB2 := Lib.hid (HB.out.trans (hb2.mono hsz))
        have HP2 := Lib.hid (show Blk w2 wr.heap.size 70 #[.int .i64 x0, .int .i64 x1, .int .i64 x2, .string x3, .int .i64 x4, .int .i64 x5, .int .i64 x6, .int .i64 x7, .int .i64 x8, .int .i64 x9, .int .i64 x10, .int .i64 x11, .int .i64 x12, .slice ma M.length mc] from by rw [hw2]; exact Blk.new _ _ _)
        have HQ2 := Lib.hid (HPR.out.call hb2)
        go_upto_region 5 with fail
        rw [← hw2]
        clear hw2 hb2 e0 e1 e2 e3 e4 e5 e6 e7 e8 e9 e10 e11 e12 e13
        have a0 := HQ2.out.at_ 0 rfl
        have a1 := HQ2.out.at_ 1 rfl
        have q0 := HP2.out.at_ 0 rfl
        have q1 := HP2.out.at_ 1 rfl
        have q2 := HP2.out.at_ 2 rfl
        have q3 := HP2.out.at_ 3 rfl
        have q4 := HP2.out.at_ 4 rfl
        have q5 := HP2.out.at_ 5 rfl
        have q6 := HP2.out.at_ 6 rfl
        have q7 := HP2.out.at_ 7 rfl
        have q8 := HP2.out.at_ 8 rfl
        have q9 := HP2.out.at_ 9 rfl
        have q10 := HP2.out.at_ 10 rfl
        have q11 := HP2.out.at_ 11 rfl
        have q12 := HP2.out.at_ 12 rfl
        have q13 := HP2.out.at_ 13 rfl
        cases b with
        | false =>
          have HT := Lib.hid (liveTo_no HX.out (by rw [HLV.out]; rfl))
          have HB9 := HB2
          go_wp2
          go_roundw
          case rel => exact ⟨k + 1, by omega, by go_num, by first | (rw [HT.out, HNN.out]; done) | (rw [HT.out, HNN.out]; rfl) | (rw [HT.out, HNN.out]; go_num), HB9.out⟩
          case measure => simp [intOf]; omega
        | true =>
          go_wp2_with fail
          refine (liveI_at (x11 := x11)).mono ?_
          rintro e w3 ⟨rfl, hb⟩
          rw [HC.out]
          have HB9 := Lib.hid (HB2.out.trans (hb.mono HB2.out.size))
          clear hb
          cases c with
          | false =>
            have HT := Lib.hid (liveTo_no HX.out (by rw [HLV.out]; rfl))
            go_wp2
            go_roundw
            case rel => exact ⟨k + 1, by omega, by go_num, by first | (rw [HT.out, HNN.out]; done) | (rw [HT.out, HNN.out]; rfl) | (rw [HT.out, HNN.out]; go_num), HB9.out⟩
            case measure => simp [intOf]; omega
          | true =>
            have HT := Lib.hid (liveTo_yes HX.out (by rw [HLV.out]; rfl))
            go_wp2
            go_roundw
            case rel => exact ⟨k + 1, by omega, by go_num, by first | (rw [HT.out, HNN.out]; done) | (rw [HT.out, HNN.out]; rfl) | (rw [HT.out, HNN.out]; go_num), HB9.out⟩
            case measure => simp [intOf]; omega
      · have hdl : decide ((k : Int) < (L.length : Int)) = false := decide_eq_false (by omega)
        obtain rfl : k = L.length := by omega
        clear hB
        go_wp2
        go_ret
        exact ⟨rfl, HBW.out⟩
end Go.Proofs.YtelhmacfljffhaaGreat.RepC
end
section
namespace Go.Proofs.YtelhmacfljffhaaGreat.RepC
open Go.RowKit RowC ValC SpanC KeptC CfC
set_option linter.unusedVariables false
set_option linter.unusedSimpArgs false
theorem below_rP {a b : Lb} (ha : LabC.rP a.1 a.2) (hb : LabC.rP b.1 b.2) : LabC.belowB a.1 a.2 b.1 b.2 = LabC.bB a.1 a.2 b.1 b.2 := LabC.below_yes ((LabC.rB_iff _ _).2 ha) ((LabC.rB_iff _ _).2 hb)
theorem pairix_at {P : List D_Pair} {pa : Option Addr} {pc n : Nat} {f0 f1 t0 t1 ix : Int} {W : World} (hn : P.length = n) (hix : ixP P (f0, f1) (t0, t1) = ix) (hP : RdSl R_Pair W W.heap.size P pa pc) :
    Calls Tryz.prog 145 #[.slice pa n pc, .agg #[.int .i64 f0, .int .i64 f1], .agg #[.int .i64 t0, .int .i64 t1]] W (IsI ix W) := by
  subst hn hix
  exact pairix_impl hP
set_option maxRecDepth 100000 in
set_option maxHeartbeats 3200000 in
theorem pairs_impl {L : List D_Label} {P : List D_Pair} {la pa : Option Addr} {lc pc : Nat} {W : World} (hLR : ∀ a ∈ L, LabC.rP a.1 a.2) (hL : RdSl R_Label W W.heap.size L la lc) (hP : RdSl R_Pair W W.heap.size P pa pc) :
    Calls Tryz.prog 88 #[.slice pa P.length pc, .slice la L.length lc] W (ResB (PairsR L P) W) := by
  have hn : P.length ≤ 9223372036854775807 := by have h1 := hP.1; have h2 := hP.2.1; unfold maxLen at h2; omega
  have hpc := hP.1
  have HL := Lib.hid hL
  have HP := Lib.hid hP
  have HLR := Lib.hid hLR
  clear hL hP hLR
  by_cases h4 : P.length ≤ 4
  rotate_left
  · have hd : decide ((P.length : Int) > 4) = true := decide_eq_true (by omega)
    have hd' : decide (4 < P.length) = true := decide_eq_true (by omega)
    have HN := Lib.hid (show ¬ PairsR L P from fun h => h4 h.1)
    go_enter Tryz.func88, Tryz.ntmps88
    go_wp2
    go_ret
    exact resB_no HN.out (Below.refl _ _)
  have hd : decide ((P.length : Int) > 4) = false := decide_eq_false (by omega)
  have hd' : decide (4 < P.length) = false := decide_eq_false (by omega)
  go_enter Tryz.func88, Tryz.ntmps88
  go_wp2
  go_loopw [12] (fun i wr => ∃ k : Nat, k ≤ P.length ∧ i = .int .i64 k ∧ Hid (∀ (j : Nat) x, j < k → P[j]? = some x → okP L P j x) ∧ Below W.heap.size W wr) (fun i _ => P.length - (intOf i).toNat)
  case atStart => exact ⟨0, Nat.zero_le _, rfl, Lib.hid fun j x h => absurd h (Nat.not_lt_zero _), Below.refl _ _⟩
  case round =>
    obtain ⟨k, hk, rfl, HA, hB⟩ := hrel
    obtain ⟨wo, rfl⟩ : ∃ x, x = wr := ⟨_, rfl⟩
    have HB := Lib.hid hB
    have hsz := hB.size
    by_cases hlt : k < P.length
    · have hdl : decide ((k : Int) < (P.length : Int)) = true := decide_eq_true (by omega)
      obtain ⟨⟨⟨x0, x1⟩, ⟨x2, x3⟩, x4⟩, hx⟩ := el_some hlt
      have HX := Lib.hid hx
      obtain ⟨g, o, us, rfl, hg, hu, hr⟩ := (HP.out.below R_Pair_ok hB).at_ hx
      obtain rfl := rd_Pair hr
      have e0 : wo.cell? ⟨g, o + k * 5, none⟩ = some (.int .i64 x0) := by simpa [size_PairS, Nat.add_assoc] using hu 0 _ rfl
      have e1 : wo.cell? ⟨g, o + k * 5 + 1, none⟩ = some (.int .i64 x1) := by simpa [size_PairS, Nat.add_assoc] using hu 1 _ rfl
      have e2 : wo.cell? ⟨g, o + k * 5 + 2, none⟩ = some (.int .i64 x2) := by simpa [size_PairS, Nat.add_assoc] using hu 2 _ rfl
      have e3 : wo.cell? ⟨g, o + k * 5 + 3, none⟩ = some (.int .i64 x3) := by simpa [size_PairS, Nat.add_assoc] using hu 3 _ rfl
      have e4 : wo.cell? ⟨g, o + k * 5 + 4, none⟩ = some (.int .i64 x4) := by simpa [size_PairS, Nat.add_assoc] using hu 4 _ rfl
      have hi0 : (0 : Int) ≤ (k : Int) := Int.natCast_nonneg _
      have hi1 : (k : Int) < (P.length : Int) := by omega
      obtain ⟨w1, hw1⟩ : ∃ w, w = wo.alloc (.cells #[.int .i64 x0, .int .i64 x1, .int .i64 x2, .int .i64 x3, .int .i64 x4] 149) := ⟨_, rfl⟩
      have hbA : Below wo.heap.size wo w1 := by rw [hw1]; exact (Below.refl _ _).alloc (Nat.le_refl _) _
      have HP1 := Lib.hid (show Blk w1 wo.heap.size 149 #[.int .i64 x0, .int .i64 x1, .int .i64 x2, .int .i64 x3, .int .i64 x4] from by rw [hw1]; exact Blk.new _ _ _)
      have HB1 := Lib.hid (HB.out.trans (hbA.mono hsz))
      have HL1 := Lib.hid (rd_mv R_Label_ok HL.out HB1.out)
      have hz1 := HB1.out.size
      have q0 := HP1.out.at_ 0 rfl
      have q1 := HP1.out.at_ 1 rfl
      have q2 := HP1.out.at_ 2 rfl
      have q3 := HP1.out.at_ 3 rfl
      have q4 := HP1.out.at_ 4 rfl
      clear hB hx hu hr
      go_wp2_with fail
      rw [← hw1]
      clear hw1 hbA e0 e1 e2 e3 e4
      refine (contains_lab HL1.out).mono ?_
      intro e w2 h
      obtain ⟨z, rfl, hz, hb⟩ := resB_elim h
      have HZ1 := Lib.hid hz
      have HB2 := Lib.hid (HB1.out.trans (hb.mono hz1))
      have HL2 := Lib.hid (rd_mv R_Label_ok HL1.out hb)
      have HP2 := Lib.hid (HP1.out.call hb)
      have hz2 := HB2.out.size
      clear h hz hb q0 q1 q2 q3 q4 HP1
      have q0 := HP2.out.at_ 0 rfl
      have q1 := HP2.out.at_ 1 rfl
      have q2 := HP2.out.at_ 2 rfl
      have q3 := HP2.out.at_ 3 rfl
      have q4 := HP2.out.at_ 4 rfl
      cases z with
      | false =>
        have HN := Lib.hid (show ¬ PairsR L P from fun h => by have := HZ1.out.2 (h.2 k _ HX.out).1; cases this)
        go_wp2
        go_ret
        exact resB_no HN.out HB2.out
      | true =>
      have HM1 := Lib.hid (HZ1.out.1 rfl)
      go_wp2_with fail
      refine (contains_lab HL2.out).mono ?_
      intro e w3 h
      obtain ⟨z, rfl, hz, hb⟩ := resB_elim h
      have HZ2 := Lib.hid hz
      have HB3 := Lib.hid (HB2.out.trans (hb.mono hz2))
      have HP3 := Lib.hid (HP2.out.call hb)
      have hz3 := HB3.out.size
      clear h hz hb q0 q1 q2 q3 q4 HP2
      have q0 := HP3.out.at_ 0 rfl
      have q1 := HP3.out.at_ 1 rfl
      have q2 := HP3.out.at_ 2 rfl
      have q3 := HP3.out.at_ 3 rfl
      have q4 := HP3.out.at_ 4 rfl
      cases z with
      | false =>
        have HN := Lib.hid (show ¬ PairsR L P from fun h => by have := HZ2.out.2 (h.2 k _ HX.out).2.1; cases this)
        go_wp2
        go_ret
        exact resB_no HN.out HB3.out
      | true =>
      have HM2 := Lib.hid (HZ2.out.1 rfl)
      obtain ⟨z3, hz3e⟩ : ∃ z, LabC.belowB x0 x1 x2 x3 = z := ⟨_, rfl⟩
      have HZ3 := Lib.hid hz3e
      have HZB := Lib.hid ((below_rP (HLR.out _ HM1.out) (HLR.out _ HM2.out)).symm.trans hz3e)
      clear hz3e
      go_wp2_with fail
      refine (bi_at _ _ _ _ HZ3.out _).mono ?_
      rintro e w4 ⟨rfl, hb⟩
      have HB4 := Lib.hid (HB3.out.trans (hb.mono hz3))
      have HP4 := Lib.hid (HP3.out.call hb)
      have HPk := Lib.hid (rd_mv R_Pair_ok HP.out HB4.out)
      have hz4 := HB4.out.size
      clear hb q0 q1 q2 q3 q4 HP3
      have q0 := HP4.out.at_ 0 rfl
      have q1 := HP4.out.at_ 1 rfl
      have q2 := HP4.out.at_ 2 rfl
      have q3 := HP4.out.at_ 3 rfl
      have q4 := HP4.out.at_ 4 rfl
      cases z3 with
      | true =>
        have HN := Lib.hid (show ¬ PairsR L P from fun h => by have := (h.2 k _ HX.out).2.2.1; rw [HZB.out] at this; cases this)
        go_wp2
        go_ret
        exact resB_no HN.out HB4.out
      | false =>
      obtain ⟨z4, hz4e⟩ : ∃ z, isB x4 1 3 = z := ⟨_, rfl⟩
      have HZ4 := Lib.hid hz4e
      have hkc : (k : Int) ≤ (pc : Int) := by omega
      have hkc2 : k ≤ pc := by omega
      clear hz4e q0 q1 q2 q3 q4
      cases z4 with
      | false =>
        have HN := Lib.hid (show ¬ PairsR L P from fun h => by have := (h.2 k _ HX.out).2.2.2.1; rw [HZ4.out] at this; cases this)
        go_wp2_with fail
        refine wp_region_held_drew (S := (fun V => Below (w4).heap.size (w4) V)) (by kernel_rfl) ((Below.refl _ _).drew) (fun hHeld => ?_)
        refine tk 0 hHeld ?_
        refine tk 1 hHeld ?_ (hy := fun w hSw => by (try dsimp only at hSw); have k0 := (hSw.cell (p := ⟨wo.heap.size, 4, none⟩) HP4.out.lt).trans (HP4.out.at_ 4 rfl); clear hSw; go_simp; try with_reducible rfl)
        refine rd1 2 (fun K hK => ?_)
        go_simp
        go_at_call 90
        refine (wi_at _ _ _ HZ4.out _).mono ?_
        rintro e w5 ⟨rfl, rfl⟩
        have hb := Below.refl w4.drew.heap.size w4.drew
        refine hK.out _ _ (hHeld.trans (hb.mono hHeld.size)) (fun hHeld => ?_)
        clear hK K hb
        refine tk 3 hHeld ?_
        refine tk 4 hHeld ?_
        refine tn 5 hHeld ?_
        refine tn 6 hHeld ?_
        refine tn 7 hHeld ?_
        refine tn 8 hHeld ?_
        refine tn 9 hHeld ?_
        refine tn 10 hHeld ?_
        refine tn 11 hHeld ?_
        refine tn 12 hHeld ?_
        refine tn 13 hHeld ?_
        refine tk 14 hHeld ?_
        refine rd0 ?_
        have HF := Lib.hid hHeld
        clear hHeld
        have HB5 := Lib.hid (HB4.out.trans (HF.out.mono hz4))
        clear HF
        go_wp2
        go_ret
        exact resB_no HN.out HB5.out
      | true =>
      have hkt : (P.take k).length = k := by rw [List.length_take]; omega
      obtain ⟨ix, hix⟩ : ∃ i, ixP (P.take k) (x0, x1) (x2, x3) = i := ⟨_, rfl⟩
      have HIX := Lib.hid hix
      by_cases hge : 0 ≤ ix
      · have hdg : decide (ix ≥ 0) = true := decide_eq_true hge
        have hdg2 : decide (0 ≤ ix) = true := decide_eq_true hge
        have HN := Lib.hid (show ¬ PairsR L P from fun h => by
          obtain ⟨q, y, hy, hh⟩ := ixP_ge.1 (by rw [hix]; exact hge)
          have hqk : q < k := by have := el_lt hy; omega
          rw [List.getElem?_take, if_pos hqk] at hy
          exact (h.2 k _ HX.out).2.2.2.2 q y hqk hy hh)
        clear hix hge
        go_wp2_with fail
        refine wp_region_held_drew (S := (fun V => Below (w4).heap.size (w4) V)) (by kernel_rfl) ((Below.refl _ _).drew) (fun hHeld => ?_)
        refine tk 0 hHeld ?_
        refine tk 1 hHeld ?_ (hy := fun w hSw => by (try dsimp only at hSw); have k0 := (hSw.cell (p := ⟨wo.heap.size, 4, none⟩) HP4.out.lt).trans (HP4.out.at_ 4 rfl); clear hSw; go_simp; try with_reducible rfl)
        refine rd1 2 (fun K hK => ?_)
        go_simp
        go_at_call 90
        refine (wi_at _ _ _ HZ4.out _).mono ?_
        rintro e w5 ⟨rfl, rfl⟩
        have hb := Below.refl w4.drew.heap.size w4.drew
        refine hK.out _ _ (hHeld.trans (hb.mono hHeld.size)) (fun hHeld => ?_)
        clear hK K hb
        refine tk 3 hHeld ?_
        refine tk 4 hHeld ?_
        refine tk 5 hHeld ?_
        refine tk 6 hHeld ?_
        refine tk 7 hHeld ?_
        refine tk 8 hHeld ?_
        refine tk 9 hHeld ?_ (hy := fun w hSw => by (try dsimp only at hSw); have k0 := (hSw.cell (p := ⟨wo.heap.size, 0, none⟩) HP4.out.lt).trans (HP4.out.at_ 0 rfl); have k1 := (hSw.cell (p := ⟨wo.heap.size, 1, none⟩) HP4.out.lt).trans (HP4.out.at_ 1 rfl); clear hSw; go_simp; try with_reducible rfl)
        refine tk 10 hHeld ?_
        refine tk 11 hHeld ?_ (hy := fun w hSw => by (try dsimp only at hSw); have k0 := (hSw.cell (p := ⟨wo.heap.size, 2, none⟩) HP4.out.lt).trans (HP4.out.at_ 2 rfl); have k1 := (hSw.cell (p := ⟨wo.heap.size, 3, none⟩) HP4.out.lt).trans (HP4.out.at_ 3 rfl); clear hSw; go_simp; try with_reducible rfl)
        refine rd1 12 (fun K hK => ?_)
        go_simp
        go_at_call 145
        refine (pairix_at hkt HIX.out (rd_take (rd_mv R_Pair_ok HPk.out hHeld) k)).mono ?_
        intro e w6 h
        obtain ⟨rfl, hb⟩ := isI_elim h
        clear h
        refine hK.out _ _ (hHeld.trans (hb.mono hHeld.size)) (fun hHeld => ?_)
        clear hK K hb
        refine tk 13 hHeld ?_
        refine tk 14 hHeld ?_
        refine rd0 ?_
        have HF := Lib.hid hHeld
        clear hHeld
        have HB5 := Lib.hid (HB4.out.trans (HF.out.mono hz4))
        clear HF
        go_wp2
        go_ret
        exact resB_no HN.out HB5.out
      · have hdg : decide (ix ≥ 0) = false := decide_eq_false hge
        have hdg2 : decide (0 ≤ ix) = false := decide_eq_false hge
        have HA2 := Lib.hid (show ∀ (j : Nat) x, j < k + 1 → P[j]? = some x → okP L P j x from fun q y hq hy => by
          by_cases e : q = k
          · subst e; rw [HX.out] at hy; obtain rfl := Option.some.inj hy
            refine ⟨HM1.out, HM2.out, HZB.out, HZ4.out, fun r z hr hz hh => hge ?_⟩
            rw [← hix]
            exact ixP_ge.2 ⟨r, z, by rw [List.getElem?_take, if_pos hr]; exact hz, hh⟩
          · exact HA.out q y (by omega) hy)
        clear hix hge
        go_wp2_with fail
        refine wp_region_held_drew (S := (fun V => Below (w4).heap.size (w4) V)) (by kernel_rfl) ((Below.refl _ _).drew) (fun hHeld => ?_)
        refine tk 0 hHeld ?_
        refine tk 1 hHeld ?_ (hy := fun w hSw => by (try dsimp only at hSw); have k0 := (hSw.cell (p := ⟨wo.heap.size, 4, none⟩) HP4.out.lt).trans (HP4.out.at_ 4 rfl); clear hSw; go_simp; try with_reducible rfl)
        refine rd1 2 (fun K hK => ?_)
        go_simp
        go_at_call 90
        refine (wi_at _ _ _ HZ4.out _).mono ?_
        rintro e w5 ⟨rfl, rfl⟩
        have hb := Below.refl w4.drew.heap.size w4.drew
        refine hK.out _ _ (hHeld.trans (hb.mono hHeld.size)) (fun hHeld => ?_)
        clear hK K hb
        refine tk 3 hHeld ?_
        refine tk 4 hHeld ?_
        refine tk 5 hHeld ?_
        refine tk 6 hHeld ?_
        refine tk 7 hHeld ?_
        refine tk 8 hHeld ?_
        refine tk 9 hHeld ?_ (hy := fun w hSw => by (try dsimp only at hSw); have k0 := (hSw.cell (p := ⟨wo.heap.size, 0, none⟩) HP4.out.lt).trans (HP4.out.at_ 0 rfl); have k1 := (hSw.cell (p := ⟨wo.heap.size, 1, none⟩) HP4.out.lt).trans (HP4.out.at_ 1 rfl); clear hSw; go_simp; try with_reducible rfl)
        refine tk 10 hHeld ?_
        refine tk 11 hHeld ?_ (hy := fun w hSw => by (try dsimp only at hSw); have k0 := (hSw.cell (p := ⟨wo.heap.size, 2, none⟩) HP4.out.lt).trans (HP4.out.at_ 2 rfl); have k1 := (hSw.cell (p := ⟨wo.heap.size, 3, none⟩) HP4.out.lt).trans (HP4.out.at_ 3 rfl); clear hSw; go_simp; try with_reducible rfl)
        refine rd1 12 (fun K hK => ?_)
        go_simp
        go_at_call 145
        refine (pairix_at hkt HIX.out (rd_take (rd_mv R_Pair_ok HPk.out hHeld) k)).mono ?_
        intro e w6 h
        obtain ⟨rfl, hb⟩ := isI_elim h
        clear h
        refine hK.out _ _ (hHeld.trans (hb.mono hHeld.size)) (fun hHeld => ?_)
        clear hK K hb
        refine tk 13 hHeld ?_
        refine tk 14 hHeld ?_
        refine rd0 ?_
        have HF := Lib.hid hHeld
        clear hHeld
        have HB5 := Lib.hid (HB4.out.trans (HF.out.mono hz4))
        clear HF
        go_wp2
        go_roundw
        case rel => exact ⟨k + 1, by omega, by go_num, HA2, HB5.out⟩
        case measure => simp [intOf]; omega
    · have hdl : decide ((k : Int) < (P.length : Int)) = false := decide_eq_false (by omega)
      have HY := Lib.hid (show PairsR L P from ⟨h4, fun i x hx => HA.out i x (by have := el_lt hx; omega) hx⟩)
      clear hB
      go_wp2
      go_ret
      exact resB_yes HY.out HB.out
end Go.Proofs.YtelhmacfljffhaaGreat.RepC
end
section
namespace Go.Proofs.YtelhmacfljffhaaGreat.RepC
open Go.RowKit RowC ValC SpanC KeptC CfC
set_option linter.unusedVariables false
set_option linter.unusedSimpArgs false
theorem bylab_b {a0 a1 b0 b1 i : Int} {W : World} (h : SortC.labI a0 a1 b0 b1 = i) : Calls Tryz.prog 143 #[.agg #[.int .i64 a0, .int .i64 a1], .agg #[.int .i64 b0, .int .i64 b1]] W (IsI i W) := by
  subst h
  exact (SortC.bylab_v a0 a1 b0 b1 W).mono fun e w' ⟨he, hw⟩ => ⟨he, by rw [hw]; exact ((((Below.refl _ _).alloc (Nat.le_refl _) _).alloc (by simp) _).drew).alloc (by show _ ≤ _; simp; omega) _⟩
set_option maxRecDepth 100000 in
set_option maxHeartbeats 3200000 in
theorem quotas_impl {L : List D_Label} {Q : List D_Quota} {la qa : Option Addr} {lc qc : Nat} {W : World} (hL : RdSl R_Label W W.heap.size L la lc) (hQ : RdSl R_Quota W W.heap.size Q qa qc) :
    Calls Tryz.prog 89 #[.slice qa Q.length qc, .slice la L.length lc] W (ResB (QuotasR L Q) W) := by
  have hn : Q.length ≤ 9223372036854775807 := by have h1 := hQ.1; have h2 := hQ.2.1; unfold maxLen at h2; omega
  have HL := Lib.hid hL
  have HQ := Lib.hid hQ
  clear hL hQ
  go_enter Tryz.func89, Tryz.ntmps89
  go_wp2
  go_loopw [9] (fun i wr => ∃ k : Nat, k ≤ Q.length ∧ i = .int .i64 k ∧ Hid (∀ (j : Nat) x, j < k → Q[j]? = some x → okQ L Q j x) ∧ Below W.heap.size W wr) (fun i _ => Q.length - (intOf i).toNat)
  case atStart => exact ⟨0, Nat.zero_le _, rfl, Lib.hid fun j x h => absurd h (Nat.not_lt_zero _), Below.refl _ _⟩
  case round =>
    obtain ⟨k, hk, rfl, HA, hB⟩ := hrel
    obtain ⟨wo, rfl⟩ : ∃ x, x = wr := ⟨_, rfl⟩
    have HB := Lib.hid hB
    have hsz := hB.size
    by_cases hlt : k < Q.length
    · have hdl : decide ((k : Int) < (Q.length : Int)) = true := decide_eq_true (by omega)
      obtain ⟨⟨⟨x0, x1⟩, x2⟩, hx⟩ := el_some hlt
      have HX := Lib.hid hx
      obtain ⟨g, o, us, rfl, hg, hu, hr⟩ := (HQ.out.below R_Quota_ok hB).at_ hx
      obtain rfl := rd_Quota hr
      have e0 : wo.cell? ⟨g, o + k * 3, none⟩ = some (.int .i64 x0) := by simpa [size_QuotaS, Nat.add_assoc] using hu 0 _ rfl
      have e1 : wo.cell? ⟨g, o + k * 3 + 1, none⟩ = some (.int .i64 x1) := by simpa [size_QuotaS, Nat.add_assoc] using hu 1 _ rfl
      have e2 : wo.cell? ⟨g, o + k * 3 + 2, none⟩ = some (.int .i64 x2) := by simpa [size_QuotaS, Nat.add_assoc] using hu 2 _ rfl
      have hi0 : (0 : Int) ≤ (k : Int) := Int.natCast_nonneg _
      have hi1 : (k : Int) < (Q.length : Int) := by omega
      obtain ⟨w1, hw1⟩ : ∃ w, w = wo.alloc (.cells #[.int .i64 x0, .int .i64 x1, .int .i64 x2] 131) := ⟨_, rfl⟩
      have hbA : Below wo.heap.size wo w1 := by rw [hw1]; exact (Below.refl _ _).alloc (Nat.le_refl _) _
      have HP1 := Lib.hid (show Blk w1 wo.heap.size 131 #[.int .i64 x0, .int .i64 x1, .int .i64 x2] from by rw [hw1]; exact Blk.new _ _ _)
      have HB1 := Lib.hid (HB.out.trans (hbA.mono hsz))
      have hz1 := HB1.out.size
      obtain ⟨zi, hzi⟩ : ∃ z, isB x2 1 9 = z := ⟨_, rfl⟩
      have HI := Lib.hid hzi
      clear hzi hB hx hu hr
      cases k with
      | zero =>
        rw [Nat.zero_mul] at e0 e1 e2
        simp only [Nat.add_zero] at e0 e1 e2
        go_wp2_with fail
        rw [← hw1]
        clear hw1 hbA e0 e1 e2
        refine wp_region_held_drew (S := (fun V => Below (w1).heap.size (w1) V)) (by kernel_rfl) ((Below.refl _ _).drew) (fun hHeld => ?_)
        refine tk 0 hHeld ?_
        refine tk 1 hHeld ?_
        refine tk 2 hHeld ?_
        refine tn 3 hHeld ?_
        refine tn 4 hHeld ?_
        refine tn 5 hHeld ?_
        refine tn 6 hHeld ?_
        refine tn 7 hHeld ?_
        refine tn 8 hHeld ?_
        refine tn 9 hHeld ?_
        refine tn 10 hHeld ?_
        refine tn 11 hHeld ?_
        refine tn 12 hHeld ?_
        refine tk 13 hHeld ?_
        refine rd0 ?_
        have HF := Lib.hid hHeld
        clear hHeld
        have HB2 := Lib.hid (HB1.out.trans (HF.out.mono hz1))
        have HP2 := Lib.hid (HP1.out.call HF.out)
        clear HF
        obtain ⟨w2, hw2⟩ : ∃ w, w = w1.drew := ⟨_, rfl⟩
        rw [← hw2] at HB2 HP2
        rw [← hw2]
        clear hw2
        have q0 := HP2.out.at_ 0 rfl
        have q1 := HP2.out.at_ 1 rfl
        have q2 := HP2.out.at_ 2 rfl
        go_wp2_with fail
        refine (contains_lab (rd_mv R_Label_ok HL.out HB2.out)).mono ?_
        intro e w7 h
        obtain ⟨z, rfl, hz, hb⟩ := resB_elim h
        have HZ1 := Lib.hid hz
        have HB7 := Lib.hid (HB2.out.trans (hb.mono HB2.out.size))
        have HP7 := Lib.hid (HP2.out.call hb)
        clear h hz hb q0 q1 q2
        have q0 := HP7.out.at_ 0 rfl
        have q1 := HP7.out.at_ 1 rfl
        have q2 := HP7.out.at_ 2 rfl
        cases z with
        | false =>
          have HN := Lib.hid (show ¬ QuotasR L Q from fun h => by have := HZ1.out.2 (h 0 _ HX.out).1; cases this)
          go_wp2
          go_ret
          exact resB_no HN.out HB7.out
        | true =>
        have HM1 := Lib.hid (HZ1.out.1 rfl)
        go_wp2_with fail
        refine (wi_at _ _ _ HI.out _).mono ?_
        rintro e w8 ⟨rfl, rfl⟩
        cases zi with
        | false =>
          have HN := Lib.hid (show ¬ QuotasR L Q from fun h => by have h2 : isB x2 1 9 = true := (h 0 _ HX.out).2.1; rw [HI.out] at h2; cases h2)
          go_wp2
          go_ret
          exact resB_no HN.out HB7.out
        | true =>
          have HA2 := Lib.hid (show ∀ (j : Nat) x, j < 0 + 1 → Q[j]? = some x → okQ L Q j x from fun q y hq hy => by
            by_cases e : q = 0
            · subst e; rw [HX.out] at hy; obtain rfl := Option.some.inj hy
              exact ⟨HM1.out, HI.out, fun h => absurd h (Nat.lt_irrefl _)⟩
            · exact HA.out q y (by omega) hy)
          go_wp2
          go_roundw
          case rel => exact ⟨0 + 1, by omega, by go_num, HA2, HB7.out⟩
          case measure => simp [intOf]; omega
      | succ m =>
        obtain ⟨⟨⟨y0, y1⟩, y2⟩, hy⟩ := el_some (show m < Q.length by omega)
        have HY := Lib.hid hy
        obtain ⟨g2, o2, us, hgg, hg2, hu, hr⟩ := (HQ.out.below R_Quota_ok HB1.out).at_ hy
        obtain ⟨rfl, rfl⟩ : g = g2 ∧ o = o2 := by cases hgg; exact ⟨rfl, rfl⟩
        obtain rfl := rd_Quota hr
        have d0 : w1.cell? ⟨g, o + m * 3, none⟩ = some (.int .i64 y0) := by simpa [size_QuotaS, Nat.add_assoc] using hu 0 _ rfl
        have d1 : w1.cell? ⟨g, o + m * 3 + 1, none⟩ = some (.int .i64 y1) := by simpa [size_QuotaS, Nat.add_assoc] using hu 1 _ rfl
        have HG := Lib.hid (show g < w1.heap.size by omega)
        have hj0 : (0 : Int) ≤ (m : Int) := Int.natCast_nonneg _
        have hj1 : (m : Int) < (Q.length : Int) := by omega
        have hgt : decide ((((m + 1 : Nat) : Int)) > 0) = true := decide_eq_true (by omega)
        have hgt2 : decide (0 < m + 1) = true := decide_eq_true (by omega)
        have hgt3 : decide (0 < (m : Int) + 1) = true := decide_eq_true (by omega)
        have hi0' : (0 : Int) ≤ (m : Int) + 1 := by omega
        have hi1' : (m : Int) + 1 < (Q.length : Int) := by omega
        have hsub2 : IntKind.i64.wrap (m : Int) = (m : Int) := IntWalk.i64_in _ (by omega)
        have hsub3 : IntKind.i64.wrap ((m : Int) + 1 - 1) = (m : Int) := by rw [show (m : Int) + 1 - 1 = (m : Int) by omega]; exact IntWalk.i64_in _ (by omega)
        obtain ⟨li, hli⟩ : ∃ i, SortC.labI y0 y1 x0 x1 = i := ⟨_, rfl⟩
        have HLI := Lib.hid hli
        clear hy hu hr hgg hg2 hli
        by_cases hge : 0 ≤ li
        · have hdg : decide (li ≥ 0) = true := decide_eq_true hge
          have hdg2 : decide (0 ≤ li) = true := decide_eq_true hge
          have HN := Lib.hid (show ¬ QuotasR L Q from fun h => by
            have h2 := (h (m + 1) _ HX.out).2.2 (by omega) _ (by rw [Nat.add_sub_cancel]; exact HY.out)
            rw [← HLI.out] at hge
            exact (SortC.labI_ge _ _ _ _).1 hge h2)
          clear hge
          go_wp2_with fail
          rw [← hw1]
          clear hw1 hbA e0 e1 e2
          refine wp_region_held_drew (S := (fun V => Below (w1).heap.size (w1) V)) (by kernel_rfl) ((Below.refl _ _).drew) (fun hHeld => ?_)
          refine tk 0 hHeld ?_
          refine tk 1 hHeld ?_
          refine tk 2 hHeld ?_
          refine tk 3 hHeld ?_
          refine tk 4 hHeld ?_
          refine tk 5 hHeld ?_
          refine tk 6 hHeld ?_
          refine tk 7 hHeld ?_
          refine tk 8 hHeld ?_ (hy := fun w hSw => by (try dsimp only at hSw); have k0 := (hSw.cell (p := ⟨g, o + m * 3, none⟩) HG.out).trans d0; have k1 := (hSw.cell (p := ⟨g, o + m * 3 + 1, none⟩) HG.out).trans d1; clear hSw; go_simp; try with_reducible rfl)
          refine tk 9 hHeld ?_
          refine tk 10 hHeld ?_ (hy := fun w hSw => by (try dsimp only at hSw); have k0 := (hSw.cell (p := ⟨wo.heap.size, 0, none⟩) HP1.out.lt).trans (HP1.out.at_ 0 rfl); have k1 := (hSw.cell (p := ⟨wo.heap.size, 1, none⟩) HP1.out.lt).trans (HP1.out.at_ 1 rfl); clear hSw; go_simp; try with_reducible rfl)
          refine rd1 11 (fun K hK => ?_)
          go_simp
          go_at_call 143
          refine (bylab_b HLI.out).mono ?_
          intro e w2 h
          obtain ⟨rfl, hb⟩ := isI_elim h
          clear h
          refine hK.out _ _ (hHeld.trans (hb.mono hHeld.size)) (fun hHeld => ?_)
          clear hK K hb
          refine tk 12 hHeld ?_
          refine tk 13 hHeld ?_
          refine rd0 ?_
          have HF := Lib.hid hHeld
          clear hHeld
          have HB2 := Lib.hid (HB1.out.trans (HF.out.mono hz1))
          clear HF
          go_wp2
          go_ret
          exact resB_no HN.out HB2.out
        · have hdg : decide (li ≥ 0) = false := decide_eq_false hge
          have hdg2 : decide (0 ≤ li) = false := decide_eq_false hge
          have HLT := Lib.hid (show ltB (y0, y1) (x0, x1) from Classical.byContradiction fun h => hge (by rw [← HLI.out]; exact (SortC.labI_ge _ _ _ _).2 h))
          clear hge
          go_wp2_with fail
          rw [← hw1]
          clear hw1 hbA e0 e1 e2
          refine wp_region_held_drew (S := (fun V => Below (w1).heap.size (w1) V)) (by kernel_rfl) ((Below.refl _ _).drew) (fun hHeld => ?_)
          refine tk 0 hHeld ?_
          refine tk 1 hHeld ?_
          refine tk 2 hHeld ?_
          refine tk 3 hHeld ?_
          refine tk 4 hHeld ?_
          refine tk 5 hHeld ?_
          refine tk 6 hHeld ?_
          refine tk 7 hHeld ?_
          refine tk 8 hHeld ?_ (hy := fun w hSw => by (try dsimp only at hSw); have k0 := (hSw.cell (p := ⟨g, o + m * 3, none⟩) HG.out).trans d0; have k1 := (hSw.cell (p := ⟨g, o + m * 3 + 1, none⟩) HG.out).trans d1; clear hSw; go_simp; try with_reducible rfl)
          refine tk 9 hHeld ?_
          refine tk 10 hHeld ?_ (hy := fun w hSw => by (try dsimp only at hSw); have k0 := (hSw.cell (p := ⟨wo.heap.size, 0, none⟩) HP1.out.lt).trans (HP1.out.at_ 0 rfl); have k1 := (hSw.cell (p := ⟨wo.heap.size, 1, none⟩) HP1.out.lt).trans (HP1.out.at_ 1 rfl); clear hSw; go_simp; try with_reducible rfl)
          refine rd1 11 (fun K hK => ?_)
          go_simp
          go_at_call 143
          refine (bylab_b HLI.out).mono ?_
          intro e w2 h
          obtain ⟨rfl, hb⟩ := isI_elim h
          clear h
          refine hK.out _ _ (hHeld.trans (hb.mono hHeld.size)) (fun hHeld => ?_)
          clear hK K hb
          refine tk 12 hHeld ?_
          refine tk 13 hHeld ?_
          refine rd0 ?_
          have HF := Lib.hid hHeld
          clear hHeld
          have HB2 := Lib.hid (HB1.out.trans (HF.out.mono hz1))
          have HP2 := Lib.hid (HP1.out.call HF.out)
          clear HF d0 d1
          have q0 := HP2.out.at_ 0 rfl
          have q1 := HP2.out.at_ 1 rfl
          have q2 := HP2.out.at_ 2 rfl
          go_wp2_with fail
          refine (contains_lab (rd_mv R_Label_ok HL.out HB2.out)).mono ?_
          intro e w7 h
          obtain ⟨z, rfl, hz, hb⟩ := resB_elim h
          have HZ1 := Lib.hid hz
          have HB7 := Lib.hid (HB2.out.trans (hb.mono HB2.out.size))
          have HP7 := Lib.hid (HP2.out.call hb)
          clear h hz hb q0 q1 q2
          have q0 := HP7.out.at_ 0 rfl
          have q1 := HP7.out.at_ 1 rfl
          have q2 := HP7.out.at_ 2 rfl
          cases z with
          | false =>
            have HN := Lib.hid (show ¬ QuotasR L Q from fun h => by have := HZ1.out.2 (h (m + 1) _ HX.out).1; cases this)
            go_wp2
            go_ret
            exact resB_no HN.out HB7.out
          | true =>
          have HM1 := Lib.hid (HZ1.out.1 rfl)
          go_wp2_with fail
          refine (wi_at _ _ _ HI.out _).mono ?_
          rintro e w8 ⟨rfl, rfl⟩
          cases zi with
          | false =>
            have HN := Lib.hid (show ¬ QuotasR L Q from fun h => by have h2 : isB x2 1 9 = true := (h (m + 1) _ HX.out).2.1; rw [HI.out] at h2; cases h2)
            go_wp2
            go_ret
            exact resB_no HN.out HB7.out
          | true =>
            have HA2 := Lib.hid (show ∀ (j : Nat) x, j < (m + 1) + 1 → Q[j]? = some x → okQ L Q j x from fun q y hq hy => by
              by_cases e : q = (m + 1)
              · subst e; rw [HX.out] at hy; obtain rfl := Option.some.inj hy
                exact ⟨HM1.out, HI.out, fun _ z hz => by rw [Nat.add_sub_cancel, HY.out] at hz; obtain rfl := Option.some.inj hz; exact HLT.out⟩
              · exact HA.out q y (by omega) hy)
            go_wp2
            go_roundw
            case rel => exact ⟨(m + 1) + 1, by omega, by go_num, HA2, HB7.out⟩
            case measure => simp [intOf]; omega
    · have hdl : decide ((k : Int) < (Q.length : Int)) = false := decide_eq_false (by omega)
      have HY := Lib.hid (show QuotasR L Q from fun i x hx => HA.out i x (by have := el_lt hx; omega) hx)
      clear hB
      go_wp2
      go_ret
      exact resB_yes HY.out HB.out
end Go.Proofs.YtelhmacfljffhaaGreat.RepC
end
section
namespace Go.Proofs.YtelhmacfljffhaaGreat.RepC
open Go.RowKit RowC ValC SpanC KeptC CfC
set_option linter.unusedVariables false
set_option linter.unusedSimpArgs false
set_option maxRecDepth 100000 in
set_option maxHeartbeats 1600000 in
theorem config_impl {C : List (List D_Label)} {P : List D_Pair} {Q : List D_Quota} {hf : Int} {ca pa qa : Option Addr} {cc pc qc : Nat} {W : World} (hC : RdSl (Sl R_Label) W W.heap.size C ca cc) (hP : RdSl R_Pair W W.heap.size P pa pc) (hQ : RdSl R_Quota W W.heap.size Q qa qc) :
    Calls Tryz.prog 35 #[.agg #[.slice ca C.length cc, .slice pa P.length pc, .slice qa Q.length qc, .int .i64 hf]] W (IsB (cfgB C P Q hf) W) := by
  obtain ⟨z, hz⟩ : ∃ z, cfgB C P Q hf = z := ⟨_, rfl⟩
  have HZ := Lib.hid (show z = true ↔ CfgR C P Q hf from by rw [← hz]; exact cfgB_iff)
  rw [hz]
  clear hz
  refine Calls.mono ?_ fun e w' h => resB_at HZ.out h
  obtain ⟨zh, hzh⟩ : ∃ z, isB hf 1 9 = z := ⟨_, rfl⟩
  have HH := Lib.hid hzh
  clear hzh HZ
  obtain ⟨M, hM⟩ : ∃ M, labsOf C = M := ⟨_, rfl⟩
  have HMr := Lib.hid (show ∀ a ∈ M, LabC.rP a.1 a.2 from by rw [← hM]; exact fun a ha => (mem_labs.1 ha).1)
  have HMs := Lib.hid (show M.Pairwise ltB from by rw [← hM]; exact labs_sorted C 32)
  have HM := Lib.hid hM
  clear hM
  obtain ⟨w0, hw0⟩ : ∃ w, w = W.alloc (.cells #[.slice ca C.length cc, .slice pa P.length pc, .slice qa Q.length qc, .int .i64 hf] 38) := ⟨_, rfl⟩
  have hb0 : Below W.heap.size W w0 := by rw [hw0]; exact (Below.refl _ _).alloc (Nat.le_refl _) _
  have x0 : Blk w0 (W.heap.size) 38 #[.slice ca C.length cc, .slice pa P.length pc, .slice qa Q.length qc, .int .i64 hf] := by
    have h9 := Blk.new W 38 #[.slice ca C.length cc, .slice pa P.length pc, .slice qa Q.length qc, .int .i64 hf]
    try simp only [World.size_alloc] at h9
    rw [hw0]; exact h9
  have X0 := Lib.hid x0
  have HC := Lib.hid (rd_mv (Sl_ok R_Label_ok) hC hb0)
  have HP := Lib.hid (rd_mv R_Pair_ok hP hb0)
  have HQ := Lib.hid (rd_mv R_Quota_ok hQ hb0)
  have HB0 := Lib.hid hb0
  have hz0 := hb0.size
  clear hb0 hC hP hQ x0
  go_enter Tryz.func35, Tryz.ntmps35
  have qX0_0 := X0.out.at_ 0 rfl
  have qX0_1 := X0.out.at_ 1 rfl
  have qX0_2 := X0.out.at_ 2 rfl
  have qX0_3 := X0.out.at_ 3 rfl
  go_wp2_with fail
  rw [← hw0]
  clear hw0
  refine (clearright_impl HC.out).mono ?_
  intro e v1 h
  obtain ⟨z1, rfl, hz1, hb1⟩ := resB_elim h
  have HZ1 := Lib.hid hz1
  have HC := Lib.hid (rd_mv (Sl_ok R_Label_ok) HC.out hb1)
  have HP := Lib.hid (rd_mv R_Pair_ok HP.out hb1)
  have HQ := Lib.hid (rd_mv R_Quota_ok HQ.out hb1)
  have X0 := Lib.hid (X0.out.call hb1)
  have HB0 := Lib.hid (HB0.out.trans (hb1.mono HB0.out.size))
  clear h hz1 hb1 qX0_0 qX0_1 qX0_2 qX0_3
  have qX0_0 := X0.out.at_ 0 rfl
  have qX0_1 := X0.out.at_ 1 rfl
  have qX0_2 := X0.out.at_ 2 rfl
  have qX0_3 := X0.out.at_ 3 rfl
  cases z1 with
  | false =>
    have HN := Lib.hid (show ¬ CfgR C P Q hf from fun h => by have := HZ1.out.2 (h.1); cases this)
    go_wp2
    go_ret
    exact resB_no HN.out HB0.out
  | true =>
  have HY1 := Lib.hid (HZ1.out.1 rfl)
  go_wp2_with fail
  have hlb := labs_impl HY1.out HC.out
  rw [HM.out] at hlb
  refine hlb.mono ?_
  intro e v2 h
  obtain ⟨la, lc, rfl, ho, hb2⟩ := newS_elim h
  have HL := Lib.hid (ho.rd R_Label_ok (B := v2.heap.size) fun k hk => hk.2)
  have HC := Lib.hid (rd_mv (Sl_ok R_Label_ok) HC.out hb2)
  have HP := Lib.hid (rd_mv R_Pair_ok HP.out hb2)
  have HQ := Lib.hid (rd_mv R_Quota_ok HQ.out hb2)
  have X0 := Lib.hid (X0.out.call hb2)
  have HB0 := Lib.hid (HB0.out.trans (hb2.mono HB0.out.size))
  clear h ho hlb hb2 qX0_0 qX0_1 qX0_2 qX0_3
  have qX0_0 := X0.out.at_ 0 rfl
  have qX0_1 := X0.out.at_ 1 rfl
  have qX0_2 := X0.out.at_ 2 rfl
  have qX0_3 := X0.out.at_ 3 rfl
  by_cases h8 : M.length ≤ 8
  rotate_left
  · have hd : decide ((M.length : Int) ≤ 8) = false := decide_eq_false (by omega)
    have hd' : decide (M.length ≤ 8) = false := decide_eq_false h8
    have HN := Lib.hid (show ¬ CfgR C P Q hf from fun h => h8 (by rw [← HM.out]; exact h.2.2.1))
    go_wp2
    go_ret
    exact resB_no HN.out HB0.out
  have hd : decide ((M.length : Int) ≤ 8) = true := decide_eq_true (by omega)
  have hd' : decide (M.length ≤ 8) = true := decide_eq_true h8
  go_wp2_with fail
  refine (pairs_impl HMr.out HL.out HP.out).mono ?_
  intro e v3 h
  obtain ⟨z3, rfl, hz3, hb3⟩ := resB_elim h
  have HZ3 := Lib.hid hz3
  have HC := Lib.hid (rd_mv (Sl_ok R_Label_ok) HC.out hb3)
  have HP := Lib.hid (rd_mv R_Pair_ok HP.out hb3)
  have HQ := Lib.hid (rd_mv R_Quota_ok HQ.out hb3)
  have HL := Lib.hid (rd_mv R_Label_ok HL.out hb3)
  have X0 := Lib.hid (X0.out.call hb3)
  have HB0 := Lib.hid (HB0.out.trans (hb3.mono HB0.out.size))
  clear h hz3 hb3 qX0_0 qX0_1 qX0_2 qX0_3
  have qX0_0 := X0.out.at_ 0 rfl
  have qX0_1 := X0.out.at_ 1 rfl
  have qX0_2 := X0.out.at_ 2 rfl
  have qX0_3 := X0.out.at_ 3 rfl
  cases z3 with
  | false =>
    have HN := Lib.hid (show ¬ CfgR C P Q hf from fun h => by have := HZ3.out.2 (by rw [← HM.out]; exact h.2.2.2.1); cases this)
    go_wp2
    go_ret
    exact resB_no HN.out HB0.out
  | true =>
  have HY3 := Lib.hid (HZ3.out.1 rfl)
  go_wp2_with fail
  refine (quotas_impl HL.out HQ.out).mono ?_
  intro e v4 h
  obtain ⟨z4, rfl, hz4, hb4⟩ := resB_elim h
  have HZ4 := Lib.hid hz4
  have HC := Lib.hid (rd_mv (Sl_ok R_Label_ok) HC.out hb4)
  have HP := Lib.hid (rd_mv R_Pair_ok HP.out hb4)
  have HQ := Lib.hid (rd_mv R_Quota_ok HQ.out hb4)
  have HL := Lib.hid (rd_mv R_Label_ok HL.out hb4)
  have X0 := Lib.hid (X0.out.call hb4)
  have HB0 := Lib.hid (HB0.out.trans (hb4.mono HB0.out.size))
  clear h hz4 hb4 qX0_0 qX0_1 qX0_2 qX0_3
  have qX0_0 := X0.out.at_ 0 rfl
  have qX0_1 := X0.out.at_ 1 rfl
  have qX0_2 := X0.out.at_ 2 rfl
  have qX0_3 := X0.out.at_ 3 rfl
  cases z4 with
  | false =>
    have HN := Lib.hid (show ¬ CfgR C P Q hf from fun h => by have := HZ4.out.2 (by rw [← HM.out]; exact h.2.2.2.2); cases this)
    go_wp2
    go_ret
    exact resB_no HN.out HB0.out
  | true =>
  have HY4 := Lib.hid (HZ4.out.1 rfl)
  go_wp2_with fail
  refine (wi_at _ _ _ HH.out _).mono ?_
  rintro e w9 ⟨rfl, rfl⟩
  cases zh with
  | false =>
    have HN := Lib.hid (show ¬ CfgR C P Q hf from fun h => by have := h.2.1; rw [HH.out] at this; cases this)
    go_wp2
    go_ret
    exact resB_no HN.out HB0.out
  | true =>
  have HY := Lib.hid (show CfgR C P Q hf from ⟨HY1.out, HH.out, by rw [HM.out]; exact h8, by rw [HM.out]; exact HY3.out, by rw [HM.out]; exact HY4.out⟩)
  go_wp2
  go_ret
  exact resB_yes HY.out HB0.out
end Go.Proofs.YtelhmacfljffhaaGreat.RepC
end
section
namespace Go.Proofs.YtelhmacfljffhaaGreat.RepC
open Go.RowKit RowC ValC SpanC KeptC NameC CfC
set_option linter.unusedVariables false
set_option linter.unusedSimpArgs false
set_option maxRecDepth 100000 in
set_option maxHeartbeats 3200000 in
theorem opennodes_impl {C : List (List D_Label)} {P : List D_Pair} {Q : List D_Quota} {hf : Int} {ca pa qa : Option Addr} {cc pc qc : Nat} {l s : Int} {W : World} (h6 : C.length ≤ 6) (hC : RdSl (Sl R_Label) W W.heap.size C ca cc) :
    Calls Tryz.prog 157 #[.agg #[.slice ca C.length cc, .slice pa P.length pc, .slice qa Q.length qc, .int .i64 hf], .agg #[.int .i64 l, .int .i64 s]] W (NewS I (nodesOf C (l, s)) W) := by
  obtain ⟨w0, hw0⟩ : ∃ w, w = (W.alloc (.cells #[.slice ca C.length cc, .slice pa P.length pc, .slice qa Q.length qc, .int .i64 hf] 38)).alloc (.cells #[.int .i64 l, .int .i64 s] 67) := ⟨_, rfl⟩
  have hb0 : Below W.heap.size W w0 := by rw [hw0]; exact ((Below.refl _ _).alloc (Nat.le_refl _) _).alloc (by simp) _
  have x0_ : Blk w0 (W.heap.size) 38 #[.slice ca C.length cc, .slice pa P.length pc, .slice qa Q.length qc, .int .i64 hf] := by
    have h9 := Blk.new W 38 #[.slice ca C.length cc, .slice pa P.length pc, .slice qa Q.length qc, .int .i64 hf]
    try simp only [World.size_alloc] at h9
    rw [hw0]; exact (h9.alloc _)
  have X0 := Lib.hid x0_
  have x1_ : Blk w0 (W.heap.size + 1) 67 #[.int .i64 l, .int .i64 s] := by
    have h9 := Blk.new (W.alloc (.cells #[.slice ca C.length cc, .slice pa P.length pc, .slice qa Q.length qc, .int .i64 hf] 38)) 67 #[.int .i64 l, .int .i64 s]
    try simp only [World.size_alloc] at h9
    rw [hw0]; exact h9
  have X1 := Lib.hid x1_
  have HC := Lib.hid (rd_mv (Sl_ok R_Label_ok) hC hb0)
  have HB0 := Lib.hid hb0
  have hz0 := hb0.size
  clear hb0 hC x0_ x1_
  have hmf : ∀ (fn : Fn) (first cap : Array Value) (w : World), (Instr.makeFunc fn first cap).run Tryz.prog w = .ok (.func fn first cap) w := fun _ _ _ _ => rfl
  have eg : ∀ args w, (callFunc 189 args).run Tryz.prog w = .ok (.enter 189 args) w := enters_of Tryz.func189 (by kernel_rfl) rfl
  go_enter Tryz.func157, Tryz.ntmps157
  go_wp2_with fail
  rw [← hw0]
  clear hw0
  go_loopw [6, 16] (fun v i wr => ∃ k : Nat, k ≤ C.length ∧ i = .int .i64 k ∧ Hid (IRow wr w0.heap.size v (nodesTo C (l, s) k)) ∧ Below w0.heap.size w0 wr) (fun _ i _ => C.length - (intOf i).toNat)
  case atStart => exact ⟨0, Nat.zero_le _, rfl, Lib.hid (FRow.none_ _ _ _ _ _), Below.refl _ _⟩
  case round =>
    obtain ⟨k, hk, rfl, HR, hB⟩ := hrel
    have HB := Lib.hid hB
    have hsz := hB.size
    obtain ⟨va, vc, rfl⟩ := HR.out.isSlice
    by_cases hlt : k < C.length
    · have hdl : decide ((k : Int) < (C.length : Int)) = true := decide_eq_true (by omega)
      obtain ⟨x, hx⟩ := el_some hlt
      have HX := Lib.hid hx
      have HCr := Lib.hid (rd_mv (Sl_ok R_Label_ok) HC.out hB)
      clear hB hx
      go_wp2_with fail
      refine (opens_spec (m := k) (by omega) HCr.out).mono ?_
      intro e w4 h
      obtain ⟨q, rfl, hq2, hb⟩ := resB_elim h
      have HQq := Lib.hid (show q = true ↔ (l, s) ∈ x from by
        rw [hq2]
        unfold okN1
        rw [Int.toNat_natCast, HX.out]
        exact ⟨fun ⟨_, y, hy, hm⟩ => by obtain rfl := Option.some.inj hy; exact hm, fun hm => ⟨by omega, x, rfl, hm⟩⟩)
      have HB3 := Lib.hid (HB.out.trans (hb.mono hsz))
      have HR3 := Lib.hid (HR.out.call hb)
      have hz3 := HB3.out.size
      clear h hq2 hb
      rcases mem_cases q HQq.out with ⟨hq, hm⟩ | ⟨hq, hm⟩
      · have HN := Lib.hid (nodesTo_yes HX.out hm)
        clear hm
        subst hq
        obtain ⟨w5, hw5⟩ : ∃ w, w = w4.alloc (.cells #[.int .i64 (k : Int)] 2) := ⟨_, rfl⟩
        have hbB : Below w4.heap.size w4 w5 := by rw [hw5]; exact (Below.refl _ _).alloc (Nat.le_refl _) _
        have HP5 : Blk w5 w4.heap.size 2 #[.int .i64 (k : Int)] := by rw [hw5]; exact Blk.new _ _ _
        have hlen := nodesTo_len C (l, s) k
        have hz5 := hbB.size
        obtain ⟨a', c', w6, hrun, hrow, hb6⟩ := IRow.more (HR3.out.call hbB) (rd_oneI (k : Int) HP5) (show w0.heap.size ≤ w5.heap.size by omega) (by simp only [List.length_singleton]; omega)
        have HRun := Lib.hid hrun
        have HR6 := Lib.hid hrow
        have HB6 := Lib.hid ((HB3.out.trans (hbB.mono (by omega))).trans (hb6.mono (by omega)))
        rw [hw5] at HRun
        clear hrun hrow hb6 hbB HP5 hw5
        go_wp2_with (at_builtin; refine wpList_app rfl (.tmp 22) (.tmp 24) 68 rfl rfl rfl HRun.out ?_)
        go_roundw
        case rel => exact ⟨k + 1, by omega, by go_num, Lib.hid (by rw [HN.out]; simpa using HR6.out), HB6.out⟩
        case measure => simp [intOf]; omega
      · have HN := Lib.hid (nodesTo_no HX.out hm)
        clear hm
        subst hq
        go_wp2
        go_roundw
        case rel => exact ⟨k + 1, by omega, by go_num, Lib.hid (by rw [HN.out]; exact HR3.out), HB3.out⟩
        case measure => simp [intOf]; omega
    · have hdl : decide ((k : Int) < (C.length : Int)) = false := decide_eq_false (by omega)
      obtain rfl : k = C.length := by omega
      have HR3 := Lib.hid (show IRow wr w0.heap.size (.slice va (nodesTo C (l, s) C.length).length vc) (nodesOf C (l, s)) from HR.out)
      clear hB
      go_wp2
      go_ret
      exact FRow.news I_ok flat_I HR3.out hz0 (HB0.out.trans (HB.out.mono hz0))
set_option maxRecDepth 100000 in
set_option maxHeartbeats 3200000 in
theorem mostlive_impl {C : List (List D_Label)} {P : List D_Pair} {Q : List D_Quota} {hf : Int} {ca pa qa : Option Addr} {cc pc qc : Nat} {l s : Int} {W : World} (hQ : RdSl R_Quota W W.heap.size Q qa qc) :
    Calls Tryz.prog 105 #[.agg #[.slice ca C.length cc, .slice pa P.length pc, .slice qa Q.length qc, .int .i64 hf], .agg #[.int .i64 l, .int .i64 s]] W (IsI (quotaIn Q (l, s)) W) := by
  have hqn : Q.length ≤ 9223372036854775807 := by have h1 := hQ.1; have h2 := hQ.2.1; unfold maxLen at h2; omega
  obtain ⟨w0, hw0⟩ : ∃ w, w = (W.alloc (.cells #[.slice ca C.length cc, .slice pa P.length pc, .slice qa Q.length qc, .int .i64 hf] 38)).alloc (.cells #[.int .i64 l, .int .i64 s] 67) := ⟨_, rfl⟩
  have hb0 : Below W.heap.size W w0 := by rw [hw0]; exact ((Below.refl _ _).alloc (Nat.le_refl _) _).alloc (by simp) _
  have x0_ : Blk w0 (W.heap.size) 38 #[.slice ca C.length cc, .slice pa P.length pc, .slice qa Q.length qc, .int .i64 hf] := by
    have h9 := Blk.new W 38 #[.slice ca C.length cc, .slice pa P.length pc, .slice qa Q.length qc, .int .i64 hf]
    try simp only [World.size_alloc] at h9
    rw [hw0]; exact (h9.alloc _)
  have X0 := Lib.hid x0_
  have x1_ : Blk w0 (W.heap.size + 1) 67 #[.int .i64 l, .int .i64 s] := by
    have h9 := Blk.new (W.alloc (.cells #[.slice ca C.length cc, .slice pa P.length pc, .slice qa Q.length qc, .int .i64 hf] 38)) 67 #[.int .i64 l, .int .i64 s]
    try simp only [World.size_alloc] at h9
    rw [hw0]; exact h9
  have X1 := Lib.hid x1_
  have HQ := Lib.hid (rd_mv R_Quota_ok hQ hb0)
  have HB0 := Lib.hid hb0
  have hz0 := hb0.size
  clear hb0 hQ x0_ x1_
  have q2 := X0.out.at_ 2 rfl
  have r0 := X1.out.at_ 0 rfl
  have r1 := X1.out.at_ 1 rfl
  rw [hw0] at q2 r0 r1
  go_enter Tryz.func105, Tryz.ntmps105
  go_wp2_with fail
  rw [← hw0]
  clear hw0 q2 r0 r1
  go_loopw [10] (fun i wr => ∃ k : Nat, k ≤ Q.length ∧ i = .int .i64 k ∧ Hid (∀ (j : Nat) y, j < k → Q[j]? = some y → y.1 ≠ (l, s)) ∧ Below w0.heap.size w0 wr) (fun i _ => Q.length - (intOf i).toNat)
  case atStart => exact ⟨0, Nat.zero_le _, rfl, Lib.hid fun j y h => absurd h (Nat.not_lt_zero _), Below.refl _ _⟩
  case round =>
    obtain ⟨k, hk, rfl, HA, hB⟩ := hrel
    have HB := Lib.hid hB
    have hsz := hB.size
    by_cases hlt : k < Q.length
    · have hdl : decide ((k : Int) < (Q.length : Int)) = true := decide_eq_true (by omega)
      obtain ⟨⟨⟨x0, x1⟩, x2⟩, hx⟩ := el_some hlt
      have HX := Lib.hid hx
      obtain ⟨g, o, us, rfl, hg, hu, hr⟩ := (rd_mv R_Quota_ok HQ.out hB).at_ hx
      obtain rfl := rd_Quota hr
      have e0 : wr.cell? ⟨g, o + k * 3, none⟩ = some (.int .i64 x0) := by simpa [size_QuotaS, Nat.add_assoc] using hu 0 _ rfl
      have e1 : wr.cell? ⟨g, o + k * 3 + 1, none⟩ = some (.int .i64 x1) := by simpa [size_QuotaS, Nat.add_assoc] using hu 1 _ rfl
      have e2 : wr.cell? ⟨g, o + k * 3 + 2, none⟩ = some (.int .i64 x2) := by simpa [size_QuotaS, Nat.add_assoc] using hu 2 _ rfl
      have hi0 : (0 : Int) ≤ (k : Int) := Int.natCast_nonneg _
      have hi1 : (k : Int) < (Q.length : Int) := by omega
      obtain ⟨b, hb⟩ : ∃ b, decide (((x0, x1) : Int × Int) = (l, s)) = b := ⟨_, rfl⟩
      have hq := eql_lab x0 x1 l s b hb
      have HE := Lib.hid hb
      obtain ⟨w2, hw2⟩ : ∃ w, w = wr.alloc (.cells #[.int .i64 x0, .int .i64 x1, .int .i64 x2] 131) := ⟨_, rfl⟩
      have hb2 : Below wr.heap.size wr w2 := by rw [hw2]; exact (Below.refl _ _).alloc (Nat.le_refl _) _
      have HB2 := Lib.hid (HB.out.trans (hb2.mono hsz))
      have Y2 := Lib.hid (show Blk w2 wr.heap.size 131 #[.int .i64 x0, .int .i64 x1, .int .i64 x2] from by rw [hw2]; exact Blk.new _ _ _)
      have Z1 := Lib.hid ((X1.out.call hB).call hb2)
      clear hB hx hu hg hb hb2
      go_upto_region 4 with fail
      rw [← hw2]
      clear hw2 e0 e1 e2
      have y0 := Y2.out.at_ 0 rfl
      have y1 := Y2.out.at_ 1 rfl
      have y2 := Y2.out.at_ 2 rfl
      have z0 := Z1.out.at_ 0 rfl
      have z1 := Z1.out.at_ 1 rfl
      cases b with
      | true =>
        have HV := Lib.hid (show quotaIn Q (l, s) = x2 from quotaIn_hit HX.out (of_decide_eq_true HE.out) HA.out)
        go_wp2
        go_ret
        exact ⟨by rw [HV.out]; rfl, HB0.out.trans (HB2.out.mono hz0)⟩
      | false =>
        have HA2 := Lib.hid (show ∀ (j : Nat) y, j < k + 1 → Q[j]? = some y → y.1 ≠ (l, s) from fun j y hj hy => by
          by_cases e : j = k
          · subst e; rw [HX.out] at hy; cases hy; exact of_decide_eq_false HE.out
          · exact HA.out j y (by omega) hy)
        go_wp2
        go_roundw
        case rel => exact ⟨k + 1, by omega, by go_num, HA2, HB2.out⟩
        case measure => simp [intOf]; omega
    · have hdl : decide ((k : Int) < (Q.length : Int)) = false := decide_eq_false (by omega)
      obtain rfl : k = Q.length := by omega
      have HV := Lib.hid (show quotaIn Q (l, s) = 6 from quotaIn_none fun j y hy => HA.out j y (List.getElem?_eq_some_iff.1 hy).1 hy)
      clear hB
      go_wp2
      go_ret
      exact ⟨by rw [HV.out]; rfl, HB0.out.trans (HB.out.mono hz0)⟩
end Go.Proofs.YtelhmacfljffhaaGreat.RepC
end
section
namespace Go.Proofs.YtelhmacfljffhaaGreat.RepC
open Go.RowKit RowC ValC SpanC KeptC NameC CfC
set_option linter.unusedVariables false
set_option linter.unusedSimpArgs false
set_option maxRecDepth 100000 in
set_option maxHeartbeats 1600000 in
theorem clear13_spec {C : List (List D_Label)} {P : List D_Pair} {Q : List D_Quota} {hf : Int} {ca pa qa : Option Addr} {cc pc qc : Nat} {l s : Int} {W : World} (hC : RdSl (Sl R_Label) W W.heap.size C ca cc) :
    Calls Tryz.prog 79 #[.agg #[.slice ca C.length cc, .slice pa P.length pc, .slice qa Q.length qc, .int .i64 hf], .agg #[.int .i64 l, .int .i64 s]] W (IsI ((nodesOf C (l, s)).length : Int) W) := by
  have hcn : C.length ≤ 9223372036854775807 := by have h1 := hC.1; have h2 := hC.2.1; unfold maxLen at h2; omega
  obtain ⟨w0, hw0⟩ : ∃ w, w = (W.alloc (.cells #[.slice ca C.length cc, .slice pa P.length pc, .slice qa Q.length qc, .int .i64 hf] 38)).alloc (.cells #[.int .i64 l, .int .i64 s] 67) := ⟨_, rfl⟩
  have hb0 : Below W.heap.size W w0 := by rw [hw0]; exact ((Below.refl _ _).alloc (Nat.le_refl _) _).alloc (by simp) _
  have x0_ : Blk w0 (W.heap.size) 38 #[.slice ca C.length cc, .slice pa P.length pc, .slice qa Q.length qc, .int .i64 hf] := by
    have h9 := Blk.new W 38 #[.slice ca C.length cc, .slice pa P.length pc, .slice qa Q.length qc, .int .i64 hf]
    try simp only [World.size_alloc] at h9
    rw [hw0]; exact (h9.alloc _)
  have X0 := Lib.hid x0_
  have x1_ : Blk w0 (W.heap.size + 1) 67 #[.int .i64 l, .int .i64 s] := by
    have h9 := Blk.new (W.alloc (.cells #[.slice ca C.length cc, .slice pa P.length pc, .slice qa Q.length qc, .int .i64 hf] 38)) 67 #[.int .i64 l, .int .i64 s]
    try simp only [World.size_alloc] at h9
    rw [hw0]; exact h9
  have X1 := Lib.hid x1_
  have HC := Lib.hid (rd_mv (Sl_ok R_Label_ok) hC hb0)
  have HB0 := Lib.hid hb0
  have hz0 := hb0.size
  clear hb0 hC x0_ x1_
  go_enter Tryz.func79, Tryz.ntmps79
  have q0 := X0.out.at_ 0 rfl
  go_wp2_with fail
  rw [← hw0]
  clear hw0 q0
  go_loopw [5, 6] (fun v i wr => ∃ k : Nat, k ≤ C.length ∧ i = .int .i64 k ∧ v = .int .i64 ((nodesTo C (l, s) k).length : Nat) ∧ Below w0.heap.size w0 wr) (fun _ i _ => C.length - (intOf i).toNat)
  case atStart => exact ⟨0, Nat.zero_le _, rfl, rfl, Below.refl _ _⟩
  case round =>
    obtain ⟨k, hk, rfl, rfl, hB⟩ := hrel
    have HB := Lib.hid hB
    have hsz := hB.size
    have Z0 := Lib.hid (X0.out.call hB)
    have Z1 := Lib.hid (X1.out.call hB)
    have q0 := Z0.out.at_ 0 rfl
    obtain ⟨n, hnn⟩ : ∃ n, (nodesTo C (l, s) k).length = n := ⟨_, rfl⟩
    have hle := nodesTo_len C (l, s) k
    have HNN := Lib.hid hnn
    rw [hnn] at hle
    rw [hnn]
    clear hnn
    by_cases hlt : k < C.length
    · have hdl : decide ((k : Int) < (C.length : Int)) = true := decide_eq_true (by omega)
      have hnw : IntKind.i64.wrap ((n : Int) + 1) = (n : Int) + 1 := IntWalk.i64_in _ (by omega)
      obtain ⟨x, hx⟩ := el_some hlt
      have HX := Lib.hid hx
      have hCr := rd_mv (Sl_ok R_Label_ok) HC.out hB
      obtain ⟨g, o, us, rfl, hg, hu, hr⟩ := hCr.at_ hx
      obtain ⟨a1, c1, rfl, k_x⟩ := hr
      have e0 : wr.cell? ⟨g, o + k, none⟩ = some (.slice a1 x.length c1) := by simpa [size_SLab] using hu 0 _ rfl
      have hi0 : (0 : Int) ≤ (k : Int) := Int.natCast_nonneg _
      have hi1 : (k : Int) < (C.length : Int) := by omega
      have HG := Lib.hid hg
      have HK := Lib.hid k_x
      clear hB hx hu k_x hCr hg
      go_wp2_with fail
      refine wp_region_held_drew (S := (fun V => Below (wr).heap.size (wr) V)) (by kernel_rfl) ((Below.refl _ _).drew) (fun hHeld => ?_)
      refine tk 0 hHeld ?_
      refine tk 1 hHeld ?_ (hy := fun w hSw => by (try dsimp only at hSw); have k0 := (hSw.cell (p := ⟨W.heap.size, 0, none⟩) Z0.out.lt).trans (Z0.out.at_ 0 rfl); clear hSw; go_simp; try with_reducible rfl)
      refine tk 2 hHeld ?_
      refine tk 3 hHeld ?_
      refine tk 4 hHeld ?_ (hy := fun w hSw => by (try dsimp only at hSw); have k0 := (hSw.cell (p := ⟨g, o + k, none⟩) HG.out).trans e0; clear hSw; go_simp; try with_reducible rfl)
      refine tk 5 hHeld ?_ (hy := fun w hSw => by (try dsimp only at hSw); have k0 := (hSw.cell (p := ⟨W.heap.size + 1, 0, none⟩) Z1.out.lt).trans (Z1.out.at_ 0 rfl); have k1 := (hSw.cell (p := ⟨W.heap.size + 1, 1, none⟩) Z1.out.lt).trans (Z1.out.at_ 1 rfl); clear hSw; go_simp; try with_reducible rfl)
      refine rd1 6 (fun K hK => ?_)
      go_simp
      go_at_call 29
      refine (cleared_spec (rd_mv R_Label_ok HK.out hHeld)).mono ?_
      intro e w4 h
      obtain ⟨q, rfl, hq2, hb⟩ := resB_elim h
      have HQq := Lib.hid hq2
      clear h hq2
      refine hK.out _ _ (hHeld.trans (hb.mono hHeld.size)) (fun hHeld => ?_)
      clear hK K hb
      refine rd0 ?_
      have HF := Lib.hid hHeld
      clear hHeld
      have HB3 := Lib.hid (HB.out.trans (HF.out.mono hsz))
      have hz3 := HB3.out.size
      clear HF
      rcases mem_cases q HQq.out with ⟨hq, hm⟩ | ⟨hq, hm⟩
      · have HN := Lib.hid (show (nodesTo C (l, s) (k + 1)).length = n + 1 from by rw [nodesTo_yes HX.out hm, List.length_append, HNN.out]; rfl)
        clear hm
        subst hq
        clear q0 e0
        go_wp2
        go_roundw
        case rel => exact ⟨k + 1, by omega, by go_num, by rw [HN.out]; go_num, HB3.out⟩
        case measure => simp [intOf]; omega
      · have HN := Lib.hid (show (nodesTo C (l, s) (k + 1)).length = n from by rw [nodesTo_no HX.out hm, HNN.out])
        clear hm
        subst hq
        clear q0 e0
        go_wp2
        go_roundw
        case rel => exact ⟨k + 1, by omega, by go_num, by rw [HN.out], HB3.out⟩
        case measure => simp [intOf]; omega
    · have hdl : decide ((k : Int) < (C.length : Int)) = false := decide_eq_false (by omega)
      obtain rfl : k = C.length := by omega
      clear hB
      go_wp2
      go_ret
      exact ⟨by rw [← HNN.out]; rfl, HB0.out.trans (HB.out.mono HB0.out.size)⟩
set_option maxRecDepth 100000 in
set_option maxHeartbeats 1600000 in
theorem end13_spec {x0 x1 x2 : Int} {x3 : ByteArray} {x4 x5 x6 x7 x8 x9 x10 x11 x12 : Int} {M : List Int} {ma : Option Addr} {mc : Nat} {W : World} (h0 : 0 ≤ x12 ∧ x12 ≤ 1000000) (h1 : 1 ≤ x5 ∧ x5 ≤ 20) : Calls Tryz.prog 80 #[.agg #[.int .i64 x0, .int .i64 x1, .int .i64 x2, .string x3, .int .i64 x4, .int .i64 x5, .int .i64 x6, .int .i64 x7, .int .i64 x8, .int .i64 x9, .int .i64 x10, .int .i64 x11, .int .i64 x12, .slice ma M.length mc]] W (IsI (x12 + 1 + x5) W) := by
  have HB0 := Lib.hid (show Below W.heap.size W (W.alloc (.cells #[.int .i64 x0, .int .i64 x1, .int .i64 x2, .string x3, .int .i64 x4, .int .i64 x5, .int .i64 x6, .int .i64 x7, .int .i64 x8, .int .i64 x9, .int .i64 x10, .int .i64 x11, .int .i64 x12, .slice ma M.length mc] 70)) from (Below.refl _ _).alloc (Nat.le_refl _) _)
  have e1 : IntKind.i64.wrap (x12 + 1) = x12 + 1 := IntWalk.i64_in _ (by omega)
  have e2 : IntKind.i64.wrap (x12 + 1 + x5) = x12 + 1 + x5 := IntWalk.i64_in _ (by omega)
  go_enter Tryz.func80, Tryz.ntmps80
  go_wp2
  go_ret
  exact ⟨by first | rfl | (simp [e1, e2]; done) | (rw [e1, e2]), HB0.out⟩
end Go.Proofs.YtelhmacfljffhaaGreat.RepC
end
section
namespace Go.Proofs.YtelhmacfljffhaaGreat.RepC
open Go.RowKit RowC ValC SpanC KeptC NameC CfC
set_option linter.unusedVariables false
set_option linter.unusedSimpArgs false
theorem startT_run {now : Int} {x : D_Task} (h : tState x = 2) : startT now x ↔ tStart x ≤ now ∧ now < endT x := ⟨fun hh => hh.1 h, fun hh => ⟨fun _ => hh, fun hn => absurd h hn⟩⟩
theorem startT_none {now : Int} {x : D_Task} (h : tState x ≠ 2) (hl : (tNodes x).length = 0) : startT now x := ⟨fun hh => absurd hh h, fun _ hl2 => by omega⟩
theorem startT_wait {now : Int} {x : D_Task} (h : tState x ≠ 2) (hl : (tNodes x).length ≠ 0) : startT now x ↔ now < tStart x ∧ tStart x ≤ now + 40 := ⟨fun hh => hh.2 h (by omega), fun hh => ⟨fun h2 => absurd h2 h, fun _ _ => hh⟩⟩
theorem has_nodes {x : D_Task} (h : TaskR x) {k : Nat} (hk : k < (tNodes x).length) : NodesR (tNodes x) := by
  obtain ⟨⟨x0, x1⟩, x2, x3, x4, x5, x6, ⟨x7, x8⟩, x9, x10, x11, x12, M⟩ := x
  have hH : Has x11 M := by
    by_cases hh : Has x11 M
    · exact hh
    · have h2 : NoP x12 M := h.2.2.2.2.2.2.2.2.2.2 hh
      have h3 := h2.2
      have hk2 : k < M.length := hk
      omega
  exact (h.2.2.2.2.2.2.2.2.2.1 hH).2.2
theorem taskR_long {x : D_Task} (h : TaskR x) : 1 ≤ tLong x ∧ tLong x ≤ 20 := by
  obtain ⟨⟨x0, x1⟩, x2, x3, x4, x5, x6, ⟨x7, x8⟩, x9, x10, x11, x12, M⟩ := x
  exact (isB_iff _ _ _).1 h.2.2.2.2.1
theorem taskR_start {x : D_Task} (h : TaskR x) : 0 ≤ tStart x ∧ tStart x ≤ 1000000 := by
  obtain ⟨⟨x0, x1⟩, x2, x3, x4, x5, x6, ⟨x7, x8⟩, x9, x10, x11, x12, M⟩ := x
  by_cases hh : Has x11 M
  · exact (isB_iff _ _ _).1 (h.2.2.2.2.2.2.2.2.2.1 hh).1
  · have h2 : NoP x12 M := h.2.2.2.2.2.2.2.2.2.2 hh
    have h3 := h2.1
    show 0 ≤ x12 ∧ x12 ≤ 1000000
    omega
theorem cleared_at {C : List (List D_Label)} {a : D_Label} {m : Nat} {x : List D_Label} (hx : C[m]? = some x) : (m : Int) ∈ nodesOf C a ↔ a ∈ x := by
  rw [mem_nodesOf]
  constructor
  · rintro ⟨k, y, hy, he, ha⟩
    have : k = m := by omega
    subst this
    rw [hx] at hy; cases hy; exact ha
  · exact fun h => ⟨m, x, hx, rfl, h⟩
theorem cleared_not {C : List (List D_Label)} {a : D_Label} {m : Nat} (h : C.length ≤ m) : (m : Int) ∉ nodesOf C a := by
  rw [mem_nodesOf]
  rintro ⟨k, y, hy, he, ha⟩
  have := (List.getElem?_eq_some_iff.1 hy).1
  omega
set_option maxRecDepth 100000 in
set_option maxHeartbeats 3200000 in
theorem task13_spec {C : List (List D_Label)} {P : List D_Pair} {Q : List D_Quota} {hf : Int} {ca pa qa : Option Addr} {cc pc qc : Nat} {N : List D_Node} {T : List D_Task} {U : List D_Use} {now : Int} {na ta ua : Option Addr} {nc tc uc : Nat} {x0 x1 x2 : Int} {x3 : ByteArray} {x4 x5 x6 x7 x8 x9 x10 x11 x12 : Int} {M : List Int} {ma : Option Addr} {mc : Nat} {W : World} (hC : RdSl (Sl R_Label) W W.heap.size C ca cc) (hM : RdSl I W W.heap.size M ma mc) (hR : TaskR ((x0, x1), x2, x3, x4, x5, x6, (x7, x8), x9, x10, x11, x12, M)) (hcl : C.length ≤ 6) (hnl : N.length = C.length) (hnow : 0 ≤ now ∧ now ≤ 999900) :
    Calls Tryz.prog 27 #[.agg #[.slice ca C.length cc, .slice pa P.length pc, .slice qa Q.length qc, .int .i64 hf, .slice na N.length nc, .slice ta T.length tc, .slice ua U.length uc, .int .i64 now], .agg #[.int .i64 x0, .int .i64 x1, .int .i64 x2, .string x3, .int .i64 x4, .int .i64 x5, .int .i64 x6, .int .i64 x7, .int .i64 x8, .int .i64 x9, .int .i64 x10, .int .i64 x11, .int .i64 x12, .slice ma M.length mc]] W (ResB (fitT C now ((x0, x1), x2, x3, x4, x5, x6, (x7, x8), x9, x10, x11, x12, M)) W) := by
  have HR := Lib.hid hR
  have hst := taskR_start hR
  have hlg := taskR_long hR
  simp only [tStart, tLong] at hst hlg
  clear hR
  have hMn : M.length ≤ 9223372036854775807 := by have h1 := hM.1; have h2 := hM.2.1; unfold maxLen at h2; omega
  obtain ⟨K, hK⟩ : ∃ K, (nodesOf C (x0, x1)).length = K := ⟨_, rfl⟩
  have HK := Lib.hid hK
  clear hK
  obtain ⟨b1, h1⟩ : ∃ b, decide ((K : Int) < x4) = b := ⟨_, rfl⟩
  obtain ⟨b2, h2⟩ : ∃ b, decide (now < x10) = b := ⟨_, rfl⟩
  have HNL := Lib.hid hnl
  have hNn : N.length ≤ 6 := by omega
  clear hnl
  obtain ⟨w0, hw0⟩ : ∃ w, w = (W.alloc (.cells #[.slice ca C.length cc, .slice pa P.length pc, .slice qa Q.length qc, .int .i64 hf, .slice na N.length nc, .slice ta T.length tc, .slice ua U.length uc, .int .i64 now] 43)).alloc (.cells #[.int .i64 x0, .int .i64 x1, .int .i64 x2, .string x3, .int .i64 x4, .int .i64 x5, .int .i64 x6, .int .i64 x7, .int .i64 x8, .int .i64 x9, .int .i64 x10, .int .i64 x11, .int .i64 x12, .slice ma M.length mc] 70) := ⟨_, rfl⟩
  have hb0 : Below W.heap.size W w0 := by rw [hw0]; exact ((Below.refl _ _).alloc (Nat.le_refl _) _).alloc (by simp) _
  have x0_ : Blk w0 (W.heap.size) 43 #[.slice ca C.length cc, .slice pa P.length pc, .slice qa Q.length qc, .int .i64 hf, .slice na N.length nc, .slice ta T.length tc, .slice ua U.length uc, .int .i64 now] := by
    have h9 := Blk.new W 43 #[.slice ca C.length cc, .slice pa P.length pc, .slice qa Q.length qc, .int .i64 hf, .slice na N.length nc, .slice ta T.length tc, .slice ua U.length uc, .int .i64 now]
    try simp only [World.size_alloc] at h9
    rw [hw0]; exact (h9.alloc _)
  have X0 := Lib.hid x0_
  have x1_ : Blk w0 (W.heap.size + 1) 70 #[.int .i64 x0, .int .i64 x1, .int .i64 x2, .string x3, .int .i64 x4, .int .i64 x5, .int .i64 x6, .int .i64 x7, .int .i64 x8, .int .i64 x9, .int .i64 x10, .int .i64 x11, .int .i64 x12, .slice ma M.length mc] := by
    have h9 := Blk.new (W.alloc (.cells #[.slice ca C.length cc, .slice pa P.length pc, .slice qa Q.length qc, .int .i64 hf, .slice na N.length nc, .slice ta T.length tc, .slice ua U.length uc, .int .i64 now] 43)) 70 #[.int .i64 x0, .int .i64 x1, .int .i64 x2, .string x3, .int .i64 x4, .int .i64 x5, .int .i64 x6, .int .i64 x7, .int .i64 x8, .int .i64 x9, .int .i64 x10, .int .i64 x11, .int .i64 x12, .slice ma M.length mc]
    try simp only [World.size_alloc] at h9
    rw [hw0]; exact h9
  have X1 := Lib.hid x1_
  have HC := Lib.hid (rd_mv (Sl_ok R_Label_ok) hC hb0)
  have HM := Lib.hid (rd_mv I_ok hM hb0)
  have HB0 := Lib.hid hb0
  have hz0 := hb0.size
  clear hb0 hC hM x0_ x1_
  go_enter Tryz.func27, Tryz.ntmps27
  go_upto_region 1 with fail
  rw [← hw0]
  clear hw0
  cases b1 with
  | true =>
    refine wp_region_held_drew (S := (fun V => Below (w0).heap.size (w0) V)) (by kernel_rfl) ((Below.refl _ _).drew) (fun hHeld => ?_)
    refine tk 0 hHeld ?_
    refine tk 1 hHeld ?_ (hy := fun w hSw => by (try dsimp only at hSw); have k0 := (hSw.cell (p := ⟨W.heap.size, 0, none⟩) X0.out.lt).trans (X0.out.at_ 0 rfl); have k1 := (hSw.cell (p := ⟨W.heap.size, 1, none⟩) X0.out.lt).trans (X0.out.at_ 1 rfl); have k2 := (hSw.cell (p := ⟨W.heap.size, 2, none⟩) X0.out.lt).trans (X0.out.at_ 2 rfl); have k3 := (hSw.cell (p := ⟨W.heap.size, 3, none⟩) X0.out.lt).trans (X0.out.at_ 3 rfl); clear hSw; go_simp; try with_reducible rfl)
    refine tk 2 hHeld ?_
    refine tk 3 hHeld ?_ (hy := fun w hSw => by (try dsimp only at hSw); have k0 := (hSw.cell (p := ⟨W.heap.size + 1, 0, none⟩) X1.out.lt).trans (X1.out.at_ 0 rfl); have k1 := (hSw.cell (p := ⟨W.heap.size + 1, 1, none⟩) X1.out.lt).trans (X1.out.at_ 1 rfl); clear hSw; go_simp; try with_reducible rfl)
    refine tk 5 hHeld ?_
    refine tk 6 hHeld ?_ (hy := fun w hSw => by (try dsimp only at hSw); have k0 := (hSw.cell (p := ⟨W.heap.size + 1, 4, none⟩) X1.out.lt).trans (X1.out.at_ 4 rfl); clear hSw; go_simp; try with_reducible rfl)
    refine rd1 4 (fun K hK => ?_)
    go_simp
    go_at_call 79
    have hcl9 := clear13_spec (P := P) (Q := Q) (hf := hf) (pa := pa) (qa := qa) (pc := pc) (qc := qc) (l := x0) (s := x1) (rd_mv (Sl_ok R_Label_ok) HC.out hHeld)
    rw [HK.out] at hcl9
    refine hcl9.mono ?_
    intro e w2 h
    obtain ⟨rfl, hb⟩ := isI_elim h
    clear h hcl9
    refine hK.out _ _ (hHeld.trans (hb.mono hHeld.size)) (fun hHeld => ?_)
    clear hK K hb
    refine tk 7 hHeld ?_
    refine tk 8 hHeld ?_
    refine tn 9 hHeld ?_
    refine tn 10 hHeld ?_
    refine tn 11 hHeld ?_
    refine tn 12 hHeld ?_
    refine tn 13 hHeld ?_
    refine tk 14 hHeld ?_
    refine rd0 ?_
    have HF := Lib.hid hHeld
    clear hHeld
    have HV := Lib.hid (show ¬ fitT C now ((x0, x1), x2, x3, x4, x5, x6, (x7, x8), x9, x10, x11, x12, M) from fun h => by have h3 : x4 ≤ (((nodesOf C (x0, x1)).length : Nat) : Int) := h.1; rw [HK.out] at h3; have h4 := of_decide_eq_true h1; omega)
    go_wp2
    go_ret
    exact resB_no HV.out (HB0.out.trans (HF.out.mono hz0))
  | false =>
    have HK1 := Lib.hid (show x4 ≤ (K : Int) from by have := of_decide_eq_false h1; omega)
    cases b2 with
    | true =>
      refine wp_region_held_drew (S := (fun V => Below (w0).heap.size (w0) V)) (by kernel_rfl) ((Below.refl _ _).drew) (fun hHeld => ?_)
      refine tk 0 hHeld ?_
      refine tk 1 hHeld ?_ (hy := fun w hSw => by (try dsimp only at hSw); have k0 := (hSw.cell (p := ⟨W.heap.size, 0, none⟩) X0.out.lt).trans (X0.out.at_ 0 rfl); have k1 := (hSw.cell (p := ⟨W.heap.size, 1, none⟩) X0.out.lt).trans (X0.out.at_ 1 rfl); have k2 := (hSw.cell (p := ⟨W.heap.size, 2, none⟩) X0.out.lt).trans (X0.out.at_ 2 rfl); have k3 := (hSw.cell (p := ⟨W.heap.size, 3, none⟩) X0.out.lt).trans (X0.out.at_ 3 rfl); clear hSw; go_simp; try with_reducible rfl)
      refine tk 2 hHeld ?_
      refine tk 3 hHeld ?_ (hy := fun w hSw => by (try dsimp only at hSw); have k0 := (hSw.cell (p := ⟨W.heap.size + 1, 0, none⟩) X1.out.lt).trans (X1.out.at_ 0 rfl); have k1 := (hSw.cell (p := ⟨W.heap.size + 1, 1, none⟩) X1.out.lt).trans (X1.out.at_ 1 rfl); clear hSw; go_simp; try with_reducible rfl)
      refine tk 5 hHeld ?_
      refine tk 6 hHeld ?_ (hy := fun w hSw => by (try dsimp only at hSw); have k0 := (hSw.cell (p := ⟨W.heap.size + 1, 4, none⟩) X1.out.lt).trans (X1.out.at_ 4 rfl); clear hSw; go_simp; try with_reducible rfl)
      refine rd1 4 (fun K hK => ?_)
      go_simp
      go_at_call 79
      have hcl9 := clear13_spec (P := P) (Q := Q) (hf := hf) (pa := pa) (qa := qa) (pc := pc) (qc := qc) (l := x0) (s := x1) (rd_mv (Sl_ok R_Label_ok) HC.out hHeld)
      rw [HK.out] at hcl9
      refine hcl9.mono ?_
      intro e w2 h
      obtain ⟨rfl, hb⟩ := isI_elim h
      clear h hcl9
      refine hK.out _ _ (hHeld.trans (hb.mono hHeld.size)) (fun hHeld => ?_)
      clear hK K hb
      refine tk 7 hHeld ?_
      refine tk 8 hHeld ?_
      refine tk 9 hHeld ?_
      refine tk 10 hHeld ?_ (hy := fun w hSw => by (try dsimp only at hSw); have k0 := (hSw.cell (p := ⟨W.heap.size + 1, 10, none⟩) X1.out.lt).trans (X1.out.at_ 10 rfl); clear hSw; go_simp; try with_reducible rfl)
      refine tk 11 hHeld ?_
      refine tk 12 hHeld ?_ (hy := fun w hSw => by (try dsimp only at hSw); have k0 := (hSw.cell (p := ⟨W.heap.size, 7, none⟩) X0.out.lt).trans (X0.out.at_ 7 rfl); clear hSw; go_simp; try with_reducible rfl)
      refine tk 13 hHeld ?_
      refine tk 14 hHeld ?_
      refine rd0 ?_
      have HF := Lib.hid hHeld
      clear hHeld
      have HV := Lib.hid (show ¬ fitT C now ((x0, x1), x2, x3, x4, x5, x6, (x7, x8), x9, x10, x11, x12, M) from fun h => by have h3 : x10 ≤ now := h.2.1; have h4 := of_decide_eq_true h2; omega)
      go_wp2
      go_ret
      exact resB_no HV.out (HB0.out.trans (HF.out.mono hz0))
    | false =>
      have HK2 := Lib.hid (show x10 ≤ now from by have := of_decide_eq_false h2; omega)
      refine wp_region_held_drew (S := (fun V => Below (w0).heap.size (w0) V)) (by kernel_rfl) ((Below.refl _ _).drew) (fun hHeld => ?_)
      refine tk 0 hHeld ?_
      refine tk 1 hHeld ?_ (hy := fun w hSw => by (try dsimp only at hSw); have k0 := (hSw.cell (p := ⟨W.heap.size, 0, none⟩) X0.out.lt).trans (X0.out.at_ 0 rfl); have k1 := (hSw.cell (p := ⟨W.heap.size, 1, none⟩) X0.out.lt).trans (X0.out.at_ 1 rfl); have k2 := (hSw.cell (p := ⟨W.heap.size, 2, none⟩) X0.out.lt).trans (X0.out.at_ 2 rfl); have k3 := (hSw.cell (p := ⟨W.heap.size, 3, none⟩) X0.out.lt).trans (X0.out.at_ 3 rfl); clear hSw; go_simp; try with_reducible rfl)
      refine tk 2 hHeld ?_
      refine tk 3 hHeld ?_ (hy := fun w hSw => by (try dsimp only at hSw); have k0 := (hSw.cell (p := ⟨W.heap.size + 1, 0, none⟩) X1.out.lt).trans (X1.out.at_ 0 rfl); have k1 := (hSw.cell (p := ⟨W.heap.size + 1, 1, none⟩) X1.out.lt).trans (X1.out.at_ 1 rfl); clear hSw; go_simp; try with_reducible rfl)
      refine tk 5 hHeld ?_
      refine tk 6 hHeld ?_ (hy := fun w hSw => by (try dsimp only at hSw); have k0 := (hSw.cell (p := ⟨W.heap.size + 1, 4, none⟩) X1.out.lt).trans (X1.out.at_ 4 rfl); clear hSw; go_simp; try with_reducible rfl)
      refine rd1 4 (fun K hK => ?_)
      go_simp
      go_at_call 79
      have hcl9 := clear13_spec (P := P) (Q := Q) (hf := hf) (pa := pa) (qa := qa) (pc := pc) (qc := qc) (l := x0) (s := x1) (rd_mv (Sl_ok R_Label_ok) HC.out hHeld)
      rw [HK.out] at hcl9
      refine hcl9.mono ?_
      intro e w2 h
      obtain ⟨rfl, hb⟩ := isI_elim h
      clear h hcl9
      refine hK.out _ _ (hHeld.trans (hb.mono hHeld.size)) (fun hHeld => ?_)
      clear hK K hb
      refine tk 7 hHeld ?_
      refine tk 8 hHeld ?_
      refine tk 9 hHeld ?_
      refine tk 10 hHeld ?_ (hy := fun w hSw => by (try dsimp only at hSw); have k0 := (hSw.cell (p := ⟨W.heap.size + 1, 10, none⟩) X1.out.lt).trans (X1.out.at_ 10 rfl); clear hSw; go_simp; try with_reducible rfl)
      refine tk 11 hHeld ?_
      refine tk 12 hHeld ?_ (hy := fun w hSw => by (try dsimp only at hSw); have k0 := (hSw.cell (p := ⟨W.heap.size, 7, none⟩) X0.out.lt).trans (X0.out.at_ 7 rfl); clear hSw; go_simp; try with_reducible rfl)
      refine tk 13 hHeld ?_
      refine tk 14 hHeld ?_
      refine rd0 ?_
      have HF := Lib.hid hHeld
      clear hHeld
      have Z0 := Lib.hid (X0.out.call HF.out)
      have Z1 := Lib.hid (X1.out.call HF.out)
      have HC1 := Lib.hid (rd_mv (Sl_ok R_Label_ok) HC.out HF.out)
      have HM1 := Lib.hid (rd_mv I_ok HM.out HF.out)
      have HB1 := Lib.hid (HB0.out.trans (HF.out.mono hz0))
      have hz1 := HB1.out.size
      clear HF h1 h2 X0 X1 HC HM
      go_wp2
      go_loopw [5] (fun i wr => ∃ k : Nat, k ≤ M.length ∧ i = .int .i64 k ∧ Hid (∀ (j : Nat) n, j < k → M[j]? = some n → n ∈ nodesOf C (x0, x1)) ∧ Below w2.heap.size w2 wr) (fun i _ => M.length - (intOf i).toNat)
      case atStart => exact ⟨0, Nat.zero_le _, rfl, Lib.hid fun j n h => absurd h (Nat.not_lt_zero _), Below.refl _ _⟩
      case round =>
        obtain ⟨k, hk, rfl, HA, hB⟩ := hrel
        have HB := Lib.hid hB
        have hsz := hB.size
        have V0 := Lib.hid (Z0.out.call hB)
        have V1 := Lib.hid (Z1.out.call hB)
        have HBW := Lib.hid (HB1.out.trans (hB.mono hz1))
        have v13 := V1.out.at_ 13 rfl
        by_cases hlt : k < M.length
        · have hdl : decide ((k : Int) < (M.length : Int)) = true := decide_eq_true (by omega)
          obtain ⟨n, hx⟩ := el_some hlt
          have hrg := nodesR_rng (has_nodes HR.out hlt) hx
          obtain ⟨m, rfl⟩ : ∃ m : Nat, n = (m : Int) := ⟨n.toNat, by omega⟩
          have HX := Lib.hid hx
          obtain ⟨g, o, us, rfl, hg, hu, hr⟩ := (rd_mv I_ok HM1.out hB).at_ hx
          obtain rfl : us = [_] := hr
          have e0 : wr.cell? ⟨g, o + k, none⟩ = some (.int .i64 (m : Int)) := by simpa [show I.size = 1 from rfl] using hu 0 _ rfl
          have HE0 := Lib.hid e0
          have HG := Lib.hid hg
          have hi0 : (0 : Int) ≤ (k : Int) := Int.natCast_nonneg _
          have hi1 : (k : Int) < (M.length : Int) := by omega
          have hm0 : (0 : Int) ≤ (m : Int) := Int.natCast_nonneg _
          by_cases hmn : m < N.length
          rotate_left
          · have hge : decide ((N.length : Int) ≤ (m : Int)) = true := decide_eq_true (by omega)
            have hge' : decide (N.length ≤ m) = true := decide_eq_true (by omega)
            have HNM := Lib.hid (show C.length ≤ m by have := HNL.out; omega)
            clear hB hu hx hg e0 hmn
            go_upto_region 6 with fail
            refine wp_region_held_drew (S := (fun V => Below (wr).heap.size (wr) V)) (by kernel_rfl) ((Below.refl _ _).drew) (fun hHeld => ?_)
            refine tk 0 hHeld ?_
            refine tk 1 hHeld ?_ (hy := fun w hSw => by (try dsimp only at hSw); have k0 := (hSw.cell (p := ⟨W.heap.size + 1, 13, none⟩) V1.out.lt).trans (V1.out.at_ 13 rfl); clear hSw; go_simp; try with_reducible rfl)
            refine tk 2 hHeld ?_
            refine tk 3 hHeld ?_
            refine tk 4 hHeld ?_ (hy := fun w hSw => by (try dsimp only at hSw); have k0 := (hSw.cell (p := ⟨g, o + k, none⟩) (Nat.lt_of_lt_of_le HG.out (Nat.le_refl _))).trans HE0.out; clear hSw; go_simp; try with_reducible rfl)
            refine tk 5 hHeld ?_
            refine tk 6 hHeld ?_ (hy := fun w hSw => by (try dsimp only at hSw); have k0 := (hSw.cell (p := ⟨W.heap.size, 4, none⟩) V0.out.lt).trans (V0.out.at_ 4 rfl); clear hSw; go_simp; try with_reducible rfl)
            refine tk 7 hHeld ?_
            refine tk 8 hHeld ?_
            refine tk 9 hHeld ?_
            refine tn 10 hHeld ?_
            refine tn 11 hHeld ?_
            refine tn 12 hHeld ?_
            refine tn 13 hHeld ?_
            refine tn 14 hHeld ?_
            refine tn 15 hHeld ?_
            refine tn 16 hHeld ?_
            refine tn 17 hHeld ?_
            refine tn 18 hHeld ?_
            refine tn 19 hHeld ?_
            refine tn 20 hHeld ?_
            refine tn 21 hHeld ?_
            refine tn 22 hHeld ?_
            refine tn 23 hHeld ?_
            refine tk 24 hHeld ?_
            refine rd0 ?_
            have HF := Lib.hid hHeld
            clear hHeld
            have HBX := Lib.hid (HBW.out.trans (HF.out.mono (Nat.le_trans hz1 hsz)))
            clear HF
            have HV := Lib.hid (show ¬ fitT C now ((x0, x1), x2, x3, x4, x5, x6, (x7, x8), x9, x10, x11, x12, M) from fun h => cleared_not HNM.out (h.2.2.1 _ (List.mem_of_getElem? HX.out)))
            go_wp2
            go_ret
            exact resB_no HV.out HBX.out
          · have hge : decide ((N.length : Int) ≤ (m : Int)) = false := decide_eq_false (by omega)
            have hge' : decide (N.length ≤ m) = false := decide_eq_false (by omega)
            have hmc : m < C.length := by have := HNL.out; omega
            have hmc1 : (m : Int) < (C.length : Int) := by omega
            obtain ⟨x, hxc⟩ := el_some hmc
            have HXC := Lib.hid hxc
            obtain ⟨gc, oc, us2, rfl, hgc, huc, hrc⟩ := (rd_mv (Sl_ok R_Label_ok) HC1.out hB).at_ hxc
            obtain ⟨a1, c1, rfl, k_x⟩ := hrc
            have ec : wr.cell? ⟨gc, oc + m, none⟩ = some (.slice a1 x.length c1) := by simpa [size_SLab] using huc 0 _ rfl
            have HEC := Lib.hid ec
            have HGC := Lib.hid hgc
            have HKX := Lib.hid k_x
            clear hB hu hx hg e0 hmn hxc hgc huc k_x ec
            go_upto_region 6 with fail
            refine wp_region_held_drew (S := (fun V => Below (wr).heap.size (wr) V)) (by kernel_rfl) ((Below.refl _ _).drew) (fun hHeld => ?_)
            refine tk 0 hHeld ?_
            refine tk 1 hHeld ?_ (hy := fun w hSw => by (try dsimp only at hSw); have k0 := (hSw.cell (p := ⟨W.heap.size + 1, 13, none⟩) V1.out.lt).trans (V1.out.at_ 13 rfl); clear hSw; go_simp; try with_reducible rfl)
            refine tk 2 hHeld ?_
            refine tk 3 hHeld ?_
            refine tk 4 hHeld ?_ (hy := fun w hSw => by (try dsimp only at hSw); have k0 := (hSw.cell (p := ⟨g, o + k, none⟩) (Nat.lt_of_lt_of_le HG.out (Nat.le_refl _))).trans HE0.out; clear hSw; go_simp; try with_reducible rfl)
            refine tk 5 hHeld ?_
            refine tk 6 hHeld ?_ (hy := fun w hSw => by (try dsimp only at hSw); have k0 := (hSw.cell (p := ⟨W.heap.size, 4, none⟩) V0.out.lt).trans (V0.out.at_ 4 rfl); clear hSw; go_simp; try with_reducible rfl)
            refine tk 7 hHeld ?_
            refine tk 8 hHeld ?_
            refine tk 9 hHeld ?_
            refine tk 10 hHeld ?_
            refine tk 11 hHeld ?_
            refine tk 12 hHeld ?_ (hy := fun w hSw => by (try dsimp only at hSw); have k0 := (hSw.cell (p := ⟨W.heap.size, 0, none⟩) V0.out.lt).trans (V0.out.at_ 0 rfl); clear hSw; go_simp; try with_reducible rfl)
            refine tk 13 hHeld ?_
            refine tk 14 hHeld ?_ (hy := fun w hSw => by (try dsimp only at hSw); have k0 := (hSw.cell (p := ⟨W.heap.size + 1, 13, none⟩) V1.out.lt).trans (V1.out.at_ 13 rfl); clear hSw; go_simp; try with_reducible rfl)
            refine tk 15 hHeld ?_
            refine tk 16 hHeld ?_
            refine tk 17 hHeld ?_ (hy := fun w hSw => by (try dsimp only at hSw); have k0 := (hSw.cell (p := ⟨g, o + k, none⟩) (Nat.lt_of_lt_of_le HG.out (Nat.le_refl _))).trans HE0.out; clear hSw; go_simp; try with_reducible rfl)
            refine tk 18 hHeld ?_
            refine tk 19 hHeld ?_ (hy := fun w hSw => by (try dsimp only at hSw); have k0 := (hSw.cell (p := ⟨gc, oc + m, none⟩) HGC.out).trans HEC.out; clear hSw; go_simp; try with_reducible rfl)
            refine tk 20 hHeld ?_
            refine tk 21 hHeld ?_ (hy := fun w hSw => by (try dsimp only at hSw); have k0 := (hSw.cell (p := ⟨W.heap.size + 1, 0, none⟩) V1.out.lt).trans (V1.out.at_ 0 rfl); have k1 := (hSw.cell (p := ⟨W.heap.size + 1, 1, none⟩) V1.out.lt).trans (V1.out.at_ 1 rfl); clear hSw; go_simp; try with_reducible rfl)
            refine rd1 22 (fun K hK => ?_)
            go_simp
            go_at_call 29
            refine (cleared_spec (rd_mv R_Label_ok HKX.out hHeld)).mono ?_
            intro e w4 h
            obtain ⟨q, rfl, hq2, hb⟩ := resB_elim h
            have HQq := Lib.hid hq2
            clear h hq2
            refine hK.out _ _ (hHeld.trans (hb.mono hHeld.size)) (fun hHeld => ?_)
            clear hK K hb
            refine tk 23 hHeld ?_
            refine tk 24 hHeld ?_
            refine rd0 ?_
            have HF := Lib.hid hHeld
            clear hHeld
            have HB3 := Lib.hid (HB.out.trans (HF.out.mono hsz))
            have HBX := Lib.hid (HBW.out.trans (HF.out.mono (Nat.le_trans hz1 hsz)))
            clear HF
            rcases mem_cases q HQq.out with ⟨hq, hm⟩ | ⟨hq, hm⟩
            · have HA2 := Lib.hid (show ∀ (j : Nat) n, j < k + 1 → M[j]? = some n → n ∈ nodesOf C (x0, x1) from fun j n hj hn => by
                by_cases e : j = k
                · subst e
                  rw [HX.out] at hn; cases hn
                  exact (cleared_at HXC.out).2 hm
                · exact HA.out j n (by omega) hn)
              clear hm
              subst hq
              clear v13
              go_wp2
              go_roundw
              case rel => exact ⟨k + 1, by omega, by go_num, HA2, HB3.out⟩
              case measure => simp [intOf]; omega
            · have HMM := Lib.hid hm
              clear hm
              subst hq
              have HV := Lib.hid (show ¬ fitT C now ((x0, x1), x2, x3, x4, x5, x6, (x7, x8), x9, x10, x11, x12, M) from fun h => HMM.out ((cleared_at HXC.out).1 (h.2.2.1 _ (List.mem_of_getElem? HX.out))))
              go_wp2
              go_ret
              exact resB_no HV.out HBX.out
        · have hdl : decide ((k : Int) < (M.length : Int)) = false := decide_eq_false (by omega)
          obtain rfl : k = M.length := by omega
          have HALL := Lib.hid (show ∀ n ∈ M, n ∈ nodesOf C (x0, x1) from fun n hn => by
            obtain ⟨j, hj, rfl⟩ := List.mem_iff_getElem.1 hn
            exact HA.out j _ hj (List.getElem?_eq_getElem hj))
          have HCONS := Lib.hid (show startT now ((x0, x1), x2, x3, x4, x5, x6, (x7, x8), x9, x10, x11, x12, M) → fitT C now ((x0, x1), x2, x3, x4, x5, x6, (x7, x8), x9, x10, x11, x12, M) from fun h => ⟨by show x4 ≤ (((nodesOf C (x0, x1)).length : Nat) : Int); rw [HK.out]; exact HK1.out, HK2.out, HALL.out, h⟩)
          have v7 := V0.out.at_ 7 rfl
          have v11 := V1.out.at_ 11 rfl
          have v12 := V1.out.at_ 12 rfl
          have hw40 : IntKind.i64.wrap (now + 40) = now + 40 := IntWalk.i64_in _ (by omega)
          clear hB HA
          by_cases hs2 : x11 = 2
          · have hs2' : (x11 == 2) = true := beq_iff_eq.2 hs2
            have HRUN := Lib.hid (startT_run (now := now) (x := ((x0, x1), x2, x3, x4, x5, x6, (x7, x8), x9, x10, x11, x12, M)) hs2)
            obtain ⟨b3, h3⟩ : ∃ b, decide (x12 ≤ now) = b := ⟨_, rfl⟩
            obtain ⟨b4, h4⟩ : ∃ b, decide (now < x12 + 1 + x5) = b := ⟨_, rfl⟩
            clear hs2
            go_upto_region 9 with fail
            clear v7 v11 v12 v13
            cases b3 with
            | false =>
              refine wp_region_held_drew (S := (fun V => Below (wr).heap.size (wr) V)) (by kernel_rfl) ((Below.refl _ _).drew) (fun hHeld => ?_)
              refine tk 0 hHeld ?_
              refine tk 1 hHeld ?_ (hy := fun w hSw => by (try dsimp only at hSw); have k0 := (hSw.cell (p := ⟨W.heap.size + 1, 12, none⟩) V1.out.lt).trans (V1.out.at_ 12 rfl); clear hSw; go_simp; try with_reducible rfl)
              refine tk 2 hHeld ?_
              refine tk 3 hHeld ?_ (hy := fun w hSw => by (try dsimp only at hSw); have k0 := (hSw.cell (p := ⟨W.heap.size, 7, none⟩) V0.out.lt).trans (V0.out.at_ 7 rfl); clear hSw; go_simp; try with_reducible rfl)
              refine tk 4 hHeld ?_
              refine tk 5 hHeld ?_
              refine tn 6 hHeld ?_
              refine tn 7 hHeld ?_
              refine tn 8 hHeld ?_
              refine tn 9 hHeld ?_
              refine tn 10 hHeld ?_
              refine tk 11 hHeld ?_
              refine tk 12 hHeld ?_
              refine rd0 ?_
              have HF := Lib.hid hHeld
              clear hHeld
              have HBX := Lib.hid (HBW.out.trans (HF.out.mono (Nat.le_trans hz1 hsz)))
              clear HF
              have HV := Lib.hid (show ¬ fitT C now ((x0, x1), x2, x3, x4, x5, x6, (x7, x8), x9, x10, x11, x12, M) from fun h => by have h5 := (HRUN.out.1 h.2.2.2).1; have h6 := of_decide_eq_false h3; simp only [tStart] at h5; omega)
              go_wp2
              go_ret
              exact resB_no HV.out HBX.out
            | true =>
              cases b4 with
              | false =>
                refine wp_region_held_drew (S := (fun V => Below (wr).heap.size (wr) V)) (by kernel_rfl) ((Below.refl _ _).drew) (fun hHeld => ?_)
                refine tk 0 hHeld ?_
                refine tk 1 hHeld ?_ (hy := fun w hSw => by (try dsimp only at hSw); have k0 := (hSw.cell (p := ⟨W.heap.size + 1, 12, none⟩) V1.out.lt).trans (V1.out.at_ 12 rfl); clear hSw; go_simp; try with_reducible rfl)
                refine tk 2 hHeld ?_
                refine tk 3 hHeld ?_ (hy := fun w hSw => by (try dsimp only at hSw); have k0 := (hSw.cell (p := ⟨W.heap.size, 7, none⟩) V0.out.lt).trans (V0.out.at_ 7 rfl); clear hSw; go_simp; try with_reducible rfl)
                refine tk 4 hHeld ?_
                refine tk 5 hHeld ?_
                refine tk 6 hHeld ?_
                refine tk 7 hHeld ?_ (hy := fun w hSw => by (try dsimp only at hSw); have k0 := (hSw.cell (p := ⟨W.heap.size, 7, none⟩) V0.out.lt).trans (V0.out.at_ 7 rfl); clear hSw; go_simp; try with_reducible rfl)
                refine tk 8 hHeld ?_ (hy := fun w hSw => by (try dsimp only at hSw); have k0 := (hSw.cell (p := ⟨W.heap.size + 1, 0, none⟩) V1.out.lt).trans (V1.out.at_ 0 rfl); have k1 := (hSw.cell (p := ⟨W.heap.size + 1, 1, none⟩) V1.out.lt).trans (V1.out.at_ 1 rfl); have k2 := (hSw.cell (p := ⟨W.heap.size + 1, 2, none⟩) V1.out.lt).trans (V1.out.at_ 2 rfl); have k3 := (hSw.cell (p := ⟨W.heap.size + 1, 3, none⟩) V1.out.lt).trans (V1.out.at_ 3 rfl); have k4 := (hSw.cell (p := ⟨W.heap.size + 1, 4, none⟩) V1.out.lt).trans (V1.out.at_ 4 rfl); have k5 := (hSw.cell (p := ⟨W.heap.size + 1, 5, none⟩) V1.out.lt).trans (V1.out.at_ 5 rfl); have k6 := (hSw.cell (p := ⟨W.heap.size + 1, 6, none⟩) V1.out.lt).trans (V1.out.at_ 6 rfl); have k7 := (hSw.cell (p := ⟨W.heap.size + 1, 7, none⟩) V1.out.lt).trans (V1.out.at_ 7 rfl); have k8 := (hSw.cell (p := ⟨W.heap.size + 1, 8, none⟩) V1.out.lt).trans (V1.out.at_ 8 rfl); have k9 := (hSw.cell (p := ⟨W.heap.size + 1, 9, none⟩) V1.out.lt).trans (V1.out.at_ 9 rfl); have k10 := (hSw.cell (p := ⟨W.heap.size + 1, 10, none⟩) V1.out.lt).trans (V1.out.at_ 10 rfl); have k11 := (hSw.cell (p := ⟨W.heap.size + 1, 11, none⟩) V1.out.lt).trans (V1.out.at_ 11 rfl); have k12 := (hSw.cell (p := ⟨W.heap.size + 1, 12, none⟩) V1.out.lt).trans (V1.out.at_ 12 rfl); have k13 := (hSw.cell (p := ⟨W.heap.size + 1, 13, none⟩) V1.out.lt).trans (V1.out.at_ 13 rfl); clear hSw; go_simp; try with_reducible rfl)
                refine rd1 9 (fun K hK => ?_)
                go_simp
                go_at_call 80
                refine (end13_spec hst hlg).mono ?_
                intro e w5 h
                obtain ⟨rfl, hb⟩ := isI_elim h
                clear h
                refine hK.out _ _ (hHeld.trans (hb.mono hHeld.size)) (fun hHeld => ?_)
                clear hK K hb
                refine tk 10 hHeld ?_
                refine tk 11 hHeld ?_
                refine tk 12 hHeld ?_
                refine rd0 ?_
                have HF := Lib.hid hHeld
                clear hHeld
                have HBX := Lib.hid (HBW.out.trans (HF.out.mono (Nat.le_trans hz1 hsz)))
                clear HF
                have HV := Lib.hid (show ¬ fitT C now ((x0, x1), x2, x3, x4, x5, x6, (x7, x8), x9, x10, x11, x12, M) from fun h => by have h5 := (HRUN.out.1 h.2.2.2).2; have h6 := of_decide_eq_false h4; simp only [endT, tStart, tLong] at h5; omega)
                go_wp2
                go_ret
                exact resB_no HV.out HBX.out
              | true =>
                refine wp_region_held_drew (S := (fun V => Below (wr).heap.size (wr) V)) (by kernel_rfl) ((Below.refl _ _).drew) (fun hHeld => ?_)
                refine tk 0 hHeld ?_
                refine tk 1 hHeld ?_ (hy := fun w hSw => by (try dsimp only at hSw); have k0 := (hSw.cell (p := ⟨W.heap.size + 1, 12, none⟩) V1.out.lt).trans (V1.out.at_ 12 rfl); clear hSw; go_simp; try with_reducible rfl)
                refine tk 2 hHeld ?_
                refine tk 3 hHeld ?_ (hy := fun w hSw => by (try dsimp only at hSw); have k0 := (hSw.cell (p := ⟨W.heap.size, 7, none⟩) V0.out.lt).trans (V0.out.at_ 7 rfl); clear hSw; go_simp; try with_reducible rfl)
                refine tk 4 hHeld ?_
                refine tk 5 hHeld ?_
                refine tk 6 hHeld ?_
                refine tk 7 hHeld ?_ (hy := fun w hSw => by (try dsimp only at hSw); have k0 := (hSw.cell (p := ⟨W.heap.size, 7, none⟩) V0.out.lt).trans (V0.out.at_ 7 rfl); clear hSw; go_simp; try with_reducible rfl)
                refine tk 8 hHeld ?_ (hy := fun w hSw => by (try dsimp only at hSw); have k0 := (hSw.cell (p := ⟨W.heap.size + 1, 0, none⟩) V1.out.lt).trans (V1.out.at_ 0 rfl); have k1 := (hSw.cell (p := ⟨W.heap.size + 1, 1, none⟩) V1.out.lt).trans (V1.out.at_ 1 rfl); have k2 := (hSw.cell (p := ⟨W.heap.size + 1, 2, none⟩) V1.out.lt).trans (V1.out.at_ 2 rfl); have k3 := (hSw.cell (p := ⟨W.heap.size + 1, 3, none⟩) V1.out.lt).trans (V1.out.at_ 3 rfl); have k4 := (hSw.cell (p := ⟨W.heap.size + 1, 4, none⟩) V1.out.lt).trans (V1.out.at_ 4 rfl); have k5 := (hSw.cell (p := ⟨W.heap.size + 1, 5, none⟩) V1.out.lt).trans (V1.out.at_ 5 rfl); have k6 := (hSw.cell (p := ⟨W.heap.size + 1, 6, none⟩) V1.out.lt).trans (V1.out.at_ 6 rfl); have k7 := (hSw.cell (p := ⟨W.heap.size + 1, 7, none⟩) V1.out.lt).trans (V1.out.at_ 7 rfl); have k8 := (hSw.cell (p := ⟨W.heap.size + 1, 8, none⟩) V1.out.lt).trans (V1.out.at_ 8 rfl); have k9 := (hSw.cell (p := ⟨W.heap.size + 1, 9, none⟩) V1.out.lt).trans (V1.out.at_ 9 rfl); have k10 := (hSw.cell (p := ⟨W.heap.size + 1, 10, none⟩) V1.out.lt).trans (V1.out.at_ 10 rfl); have k11 := (hSw.cell (p := ⟨W.heap.size + 1, 11, none⟩) V1.out.lt).trans (V1.out.at_ 11 rfl); have k12 := (hSw.cell (p := ⟨W.heap.size + 1, 12, none⟩) V1.out.lt).trans (V1.out.at_ 12 rfl); have k13 := (hSw.cell (p := ⟨W.heap.size + 1, 13, none⟩) V1.out.lt).trans (V1.out.at_ 13 rfl); clear hSw; go_simp; try with_reducible rfl)
                refine rd1 9 (fun K hK => ?_)
                go_simp
                go_at_call 80
                refine (end13_spec hst hlg).mono ?_
                intro e w5 h
                obtain ⟨rfl, hb⟩ := isI_elim h
                clear h
                refine hK.out _ _ (hHeld.trans (hb.mono hHeld.size)) (fun hHeld => ?_)
                clear hK K hb
                refine tk 10 hHeld ?_
                refine tk 11 hHeld ?_
                refine tk 12 hHeld ?_
                refine rd0 ?_
                have HF := Lib.hid hHeld
                clear hHeld
                have HBX := Lib.hid (HBW.out.trans (HF.out.mono (Nat.le_trans hz1 hsz)))
                clear HF
                have HV := Lib.hid (show fitT C now ((x0, x1), x2, x3, x4, x5, x6, (x7, x8), x9, x10, x11, x12, M) from HCONS.out (HRUN.out.2 ⟨of_decide_eq_true h3, of_decide_eq_true h4⟩))
                go_wp2
                go_ret
                exact resB_yes HV.out HBX.out
          · have hs2' : (x11 == 2) = false := beq_eq_false_iff_ne.2 hs2
            by_cases hl0 : M.length = 0
            · have hl0' : ((M.length : Int) == 0) = true := beq_iff_eq.2 (by omega)
              have HV := Lib.hid (show fitT C now ((x0, x1), x2, x3, x4, x5, x6, (x7, x8), x9, x10, x11, x12, M) from HCONS.out (startT_none hs2 hl0))
              clear hs2 hl0
              go_wp2
              go_ret
              exact resB_yes HV.out HBW.out
            · have hl0' : ((M.length : Int) == 0) = false := beq_eq_false_iff_ne.2 (by omega)
              have HW := Lib.hid (startT_wait (now := now) (x := ((x0, x1), x2, x3, x4, x5, x6, (x7, x8), x9, x10, x11, x12, M)) hs2 hl0)
              obtain ⟨b3, h3⟩ : ∃ b, decide (now < x12) = b := ⟨_, rfl⟩
              obtain ⟨b4, h4⟩ : ∃ b, decide (x12 ≤ now + 40) = b := ⟨_, rfl⟩
              clear hs2 hl0
              cases b3 with
              | false =>
                have HV := Lib.hid (show ¬ fitT C now ((x0, x1), x2, x3, x4, x5, x6, (x7, x8), x9, x10, x11, x12, M) from fun h => by have h5 := (HW.out.1 h.2.2.2).1; have h6 := of_decide_eq_false h3; simp only [tStart] at h5; omega)
                go_wp2
                go_ret
                exact resB_no HV.out HBW.out
              | true =>
                have HV := Lib.hid (show b4 = true ↔ fitT C now ((x0, x1), x2, x3, x4, x5, x6, (x7, x8), x9, x10, x11, x12, M) from by
                  rw [← h4, decide_eq_true_eq]
                  exact ⟨fun h => HCONS.out (HW.out.2 ⟨of_decide_eq_true h3, h⟩), fun h => (HW.out.1 h.2.2.2).2⟩)
                go_wp2
                go_ret
                exact ⟨b4, rfl, HV.out, HBW.out⟩
end Go.Proofs.YtelhmacfljffhaaGreat.RepC
end
section
namespace Go.Proofs.YtelhmacfljffhaaGreat.RepC
open Go.RowKit RowC ValC SpanC KeptC NameC CfC
set_option linter.unusedVariables false
set_option linter.unusedSimpArgs false
set_option maxRecDepth 100000 in
set_option maxHeartbeats 3200000 in
theorem nodesfit_impl {C : List (List D_Label)} {P : List D_Pair} {Q : List D_Quota} {hf : Int} {ca pa qa : Option Addr} {cc pc qc : Nat} {N : List D_Node} {T : List D_Task} {U : List D_Use} {now : Int} {na ta ua : Option Addr} {nc tc uc : Nat} {x0 x1 x2 : Int} {x3 : ByteArray} {x4 x5 x6 x7 x8 x9 x10 x11 x12 : Int} {M : List Int} {ma : Option Addr} {mc : Nat} {W : World} (h6 : C.length ≤ 6) (hC : RdSl (Sl R_Label) W W.heap.size C ca cc) (hM : RdSl I W W.heap.size M ma mc) :
    Calls Tryz.prog 101 #[.agg #[.slice ca C.length cc, .slice pa P.length pc, .slice qa Q.length qc, .int .i64 hf, .slice na N.length nc, .slice ta T.length tc, .slice ua U.length uc, .int .i64 now], .agg #[.int .i64 x0, .int .i64 x1, .int .i64 x2, .string x3, .int .i64 x4, .int .i64 x5, .int .i64 x6, .int .i64 x7, .int .i64 x8, .int .i64 x9, .int .i64 x10, .int .i64 x11, .int .i64 x12, .slice ma M.length mc]] W (ResB ((∀ n ∈ M, n ∈ nodesOf C (x0, x1)) ∧ x4 ≤ ((nodesOf C (x0, x1)).length : Int)) W) := by
  have hMn : M.length ≤ 9223372036854775807 := by have h1 := hM.1; have h2 := hM.2.1; unfold maxLen at h2; omega
  obtain ⟨K, hK⟩ : ∃ K, nodesOf C (x0, x1) = K := ⟨_, rfl⟩
  have HK := Lib.hid hK
  have hKn : K.length ≤ 6 := by rw [← hK]; exact Nat.le_trans (nodesTo_len C _ _) h6
  rw [hK]
  clear hK
  obtain ⟨w0, hw0⟩ : ∃ w, w = (W.alloc (.cells #[.slice ca C.length cc, .slice pa P.length pc, .slice qa Q.length qc, .int .i64 hf, .slice na N.length nc, .slice ta T.length tc, .slice ua U.length uc, .int .i64 now] 43)).alloc (.cells #[.int .i64 x0, .int .i64 x1, .int .i64 x2, .string x3, .int .i64 x4, .int .i64 x5, .int .i64 x6, .int .i64 x7, .int .i64 x8, .int .i64 x9, .int .i64 x10, .int .i64 x11, .int .i64 x12, .slice ma M.length mc] 70) := ⟨_, rfl⟩
  have hb0 : Below W.heap.size W w0 := by rw [hw0]; exact ((Below.refl _ _).alloc (Nat.le_refl _) _).alloc (by simp) _
  have x0_ : Blk w0 (W.heap.size) 43 #[.slice ca C.length cc, .slice pa P.length pc, .slice qa Q.length qc, .int .i64 hf, .slice na N.length nc, .slice ta T.length tc, .slice ua U.length uc, .int .i64 now] := by
    have h9 := Blk.new W 43 #[.slice ca C.length cc, .slice pa P.length pc, .slice qa Q.length qc, .int .i64 hf, .slice na N.length nc, .slice ta T.length tc, .slice ua U.length uc, .int .i64 now]
    try simp only [World.size_alloc] at h9
    rw [hw0]; exact (h9.alloc _)
  have X0 := Lib.hid x0_
  have x1_ : Blk w0 (W.heap.size + 1) 70 #[.int .i64 x0, .int .i64 x1, .int .i64 x2, .string x3, .int .i64 x4, .int .i64 x5, .int .i64 x6, .int .i64 x7, .int .i64 x8, .int .i64 x9, .int .i64 x10, .int .i64 x11, .int .i64 x12, .slice ma M.length mc] := by
    have h9 := Blk.new (W.alloc (.cells #[.slice ca C.length cc, .slice pa P.length pc, .slice qa Q.length qc, .int .i64 hf, .slice na N.length nc, .slice ta T.length tc, .slice ua U.length uc, .int .i64 now] 43)) 70 #[.int .i64 x0, .int .i64 x1, .int .i64 x2, .string x3, .int .i64 x4, .int .i64 x5, .int .i64 x6, .int .i64 x7, .int .i64 x8, .int .i64 x9, .int .i64 x10, .int .i64 x11, .int .i64 x12, .slice ma M.length mc]
    try simp only [World.size_alloc] at h9
    rw [hw0]; exact h9
  have X1 := Lib.hid x1_
  have HC := Lib.hid (rd_mv (Sl_ok R_Label_ok) hC hb0)
  have HM := Lib.hid (rd_mv I_ok hM hb0)
  have HB0 := Lib.hid hb0
  have hz0 := hb0.size
  clear hb0 hC hM x0_ x1_
  go_enter Tryz.func101, Tryz.ntmps101
  go_upto_region 1 with fail
  rw [← hw0]
  clear hw0
  have qX0_0 := X0.out.at_ 0 rfl
  have qX0_1 := X0.out.at_ 1 rfl
  have qX0_2 := X0.out.at_ 2 rfl
  have qX0_3 := X0.out.at_ 3 rfl
  have qX0_4 := X0.out.at_ 4 rfl
  have qX0_5 := X0.out.at_ 5 rfl
  have qX0_6 := X0.out.at_ 6 rfl
  have qX0_7 := X0.out.at_ 7 rfl
  have qX1_0 := X1.out.at_ 0 rfl
  have qX1_1 := X1.out.at_ 1 rfl
  have qX1_2 := X1.out.at_ 2 rfl
  have qX1_3 := X1.out.at_ 3 rfl
  have qX1_4 := X1.out.at_ 4 rfl
  have qX1_5 := X1.out.at_ 5 rfl
  have qX1_6 := X1.out.at_ 6 rfl
  have qX1_7 := X1.out.at_ 7 rfl
  have qX1_8 := X1.out.at_ 8 rfl
  have qX1_9 := X1.out.at_ 9 rfl
  have qX1_10 := X1.out.at_ 10 rfl
  have qX1_11 := X1.out.at_ 11 rfl
  have qX1_12 := X1.out.at_ 12 rfl
  have qX1_13 := X1.out.at_ 13 rfl
  go_wp2_with fail
  have hop := opennodes_impl (P := P) (Q := Q) (hf := hf) (pa := pa) (qa := qa) (pc := pc) (qc := qc) (l := x0) (s := x1) h6 HC.out
  rw [HK.out] at hop
  refine hop.mono ?_
  intro e w1 h
  obtain ⟨la, lc, rfl, ho, hb⟩ := newS_elim h
  have HL := Lib.hid (ho.rd I_ok (B := w1.heap.size) fun k hk => hk.2)
  have HB1 := Lib.hid (HB0.out.trans (hb.mono hz0))
  have Z1 := Lib.hid (X1.out.call hb)
  have HM1 := Lib.hid (rd_mv I_ok HM.out hb)
  have hz1 := HB1.out.size
  clear h ho hop hb qX0_0 qX0_1 qX0_2 qX0_3 qX0_4 qX0_5 qX0_6 qX0_7 qX1_0 qX1_1 qX1_2 qX1_3 qX1_4 qX1_5 qX1_6 qX1_7 qX1_8 qX1_9 qX1_10 qX1_11 qX1_12 qX1_13
  have q13 := Z1.out.at_ 13 rfl
  go_wp2
  go_loopw [16] (fun i wr => ∃ k : Nat, k ≤ M.length ∧ i = .int .i64 k ∧ Hid (∀ (j : Nat) n, j < k → M[j]? = some n → n ∈ K) ∧ Below w1.heap.size w1 wr) (fun i _ => M.length - (intOf i).toNat)
  case atStart => exact ⟨0, Nat.zero_le _, rfl, Lib.hid fun j n h => absurd h (Nat.not_lt_zero _), Below.refl _ _⟩
  case round =>
    obtain ⟨k, hk, rfl, HA, hB⟩ := hrel
    have HB := Lib.hid hB
    have HBW := Lib.hid (HB1.out.trans (hB.mono hz1))
    have hsz := hB.size
    by_cases hlt : k < M.length
    · have hdl : decide ((k : Int) < (M.length : Int)) = true := decide_eq_true (by omega)
      obtain ⟨n, hx⟩ := el_some hlt
      have HX := Lib.hid hx
      obtain ⟨g, o, us, rfl, hg, hu, hr⟩ := (rd_mv I_ok HM1.out hB).at_ hx
      obtain rfl : us = [_] := hr
      have e0 : wr.cell? ⟨g, o + k, none⟩ = some (.int .i64 n) := by simpa [show I.size = 1 from rfl] using hu 0 _ rfl
      have hi0 : (0 : Int) ≤ (k : Int) := Int.natCast_nonneg _
      have hi1 : (k : Int) < (M.length : Int) := by omega
      have HL2 := Lib.hid (rd_mv I_ok HL.out hB)
      clear hB hx hu hg q13
      go_wp2_with fail
      refine (contains_int HL2.out).mono ?_
      intro e w2 h
      obtain ⟨b, rfl, hb, hbl⟩ := resB_elim h
      have HMB := Lib.hid hb
      have HB2 := Lib.hid (HB.out.trans (hbl.mono hsz))
      have HBW2 := Lib.hid (HBW.out.trans (hbl.mono HBW.out.size))
      clear h hb hbl e0
      cases b with
      | false =>
        have HV := Lib.hid (show ¬ ((∀ n ∈ M, n ∈ K) ∧ x4 ≤ ((K).length : Int)) from fun h => by have := HMB.out.2 (h.1 n (List.mem_of_getElem? HX.out)); cases this)
        go_wp2
        go_ret
        exact resB_no HV.out HBW2.out
      | true =>
        have HA2 := Lib.hid (show ∀ (j : Nat) n, j < k + 1 → M[j]? = some n → n ∈ K from fun j n hj hn => by
          by_cases e : j = k
          · subst e; rw [HX.out] at hn; cases hn; exact HMB.out.1 rfl
          · exact HA.out j n (by omega) hn)
        go_wp2
        go_roundw
        case rel => exact ⟨k + 1, by omega, by go_num, HA2, HB2.out⟩
        case measure => simp [intOf]; omega
    · have hdl : decide ((k : Int) < (M.length : Int)) = false := decide_eq_false (by omega)
      obtain rfl : k = M.length := by omega
      have HALL := Lib.hid (show ∀ n ∈ M, n ∈ K from fun n hn => by
        obtain ⟨j, hj, rfl⟩ := List.mem_iff_getElem.1 hn
        exact HA.out j _ hj (List.getElem?_eq_getElem hj))
      have Z2 := Lib.hid (Z1.out.call hB)
      have p4 := Z2.out.at_ 4 rfl
      obtain ⟨b, hb⟩ : ∃ b, decide (x4 ≤ (K.length : Int)) = b := ⟨_, rfl⟩
      have HV := Lib.hid (show b = true ↔ ((∀ n ∈ M, n ∈ K) ∧ x4 ≤ ((K).length : Int)) from by rw [← hb, decide_eq_true_eq]; exact ⟨fun h => ⟨HALL.out, h⟩, fun h => h.2⟩)
      clear hB q13
      go_wp2
      go_ret
      exact ⟨b, rfl, HV.out, HBW.out⟩
set_option maxRecDepth 100000 in
set_option maxHeartbeats 3200000 in
theorem startfits_impl {C : List (List D_Label)} {P : List D_Pair} {Q : List D_Quota} {hf : Int} {ca pa qa : Option Addr} {cc pc qc : Nat} {N : List D_Node} {T : List D_Task} {U : List D_Use} {now : Int} {na ta ua : Option Addr} {nc tc uc : Nat} {x0 x1 x2 : Int} {x3 : ByteArray} {x4 x5 x6 x7 x8 x9 x10 x11 x12 : Int} {M : List Int} {ma : Option Addr} {mc : Nat} {W : World} (hst : 0 ≤ x12 ∧ x12 ≤ 1000000) (hlg : 1 ≤ x5 ∧ x5 ≤ 20) (hnow : 0 ≤ now ∧ now ≤ 999900) :
    Calls Tryz.prog 102 #[.agg #[.slice ca C.length cc, .slice pa P.length pc, .slice qa Q.length qc, .int .i64 hf, .slice na N.length nc, .slice ta T.length tc, .slice ua U.length uc, .int .i64 now], .agg #[.int .i64 x0, .int .i64 x1, .int .i64 x2, .string x3, .int .i64 x4, .int .i64 x5, .int .i64 x6, .int .i64 x7, .int .i64 x8, .int .i64 x9, .int .i64 x10, .int .i64 x11, .int .i64 x12, .slice ma M.length mc]] W (ResB (startT now ((x0, x1), x2, x3, x4, x5, x6, (x7, x8), x9, x10, x11, x12, M)) W) := by
  have e1 : IntKind.i64.wrap (x12 + 1 + x5 - 1) = x12 + 1 + x5 - 1 := IntWalk.i64_in _ (by omega)
  have e2 : IntKind.i64.wrap (now + 1) = now + 1 := IntWalk.i64_in _ (by omega)
  have e3 : IntKind.i64.wrap (now + 40) = now + 40 := IntWalk.i64_in _ (by omega)
  obtain ⟨br, hbr⟩ : ∃ b, (x11 == 2) = b := ⟨_, rfl⟩
  obtain ⟨bp, hbp⟩ : ∃ b, decide (0 < M.length) = b := ⟨_, rfl⟩
  obtain ⟨b3, h3⟩ : ∃ b, isB now x12 (x12 + 1 + x5 - 1) = b := ⟨_, rfl⟩
  obtain ⟨b4, h4⟩ : ∃ b, isB x12 (now + 1) (now + 40) = b := ⟨_, rfl⟩
  have HR := Lib.hid hbr
  have HPl := Lib.hid hbp
  have H3 := Lib.hid h3
  have H4 := Lib.hid h4
  clear hbr hbp h3 h4
  obtain ⟨w0, hw0⟩ : ∃ w, w = (W.alloc (.cells #[.slice ca C.length cc, .slice pa P.length pc, .slice qa Q.length qc, .int .i64 hf, .slice na N.length nc, .slice ta T.length tc, .slice ua U.length uc, .int .i64 now] 43)).alloc (.cells #[.int .i64 x0, .int .i64 x1, .int .i64 x2, .string x3, .int .i64 x4, .int .i64 x5, .int .i64 x6, .int .i64 x7, .int .i64 x8, .int .i64 x9, .int .i64 x10, .int .i64 x11, .int .i64 x12, .slice ma M.length mc] 70) := ⟨_, rfl⟩
  have hb0 : Below W.heap.size W w0 := by rw [hw0]; exact ((Below.refl _ _).alloc (Nat.le_refl _) _).alloc (by simp) _
  have x0_ : Blk w0 (W.heap.size) 43 #[.slice ca C.length cc, .slice pa P.length pc, .slice qa Q.length qc, .int .i64 hf, .slice na N.length nc, .slice ta T.length tc, .slice ua U.length uc, .int .i64 now] := by
    have h9 := Blk.new W 43 #[.slice ca C.length cc, .slice pa P.length pc, .slice qa Q.length qc, .int .i64 hf, .slice na N.length nc, .slice ta T.length tc, .slice ua U.length uc, .int .i64 now]
    try simp only [World.size_alloc] at h9
    rw [hw0]; exact (h9.alloc _)
  have X0 := Lib.hid x0_
  have x1_ : Blk w0 (W.heap.size + 1) 70 #[.int .i64 x0, .int .i64 x1, .int .i64 x2, .string x3, .int .i64 x4, .int .i64 x5, .int .i64 x6, .int .i64 x7, .int .i64 x8, .int .i64 x9, .int .i64 x10, .int .i64 x11, .int .i64 x12, .slice ma M.length mc] := by
    have h9 := Blk.new (W.alloc (.cells #[.slice ca C.length cc, .slice pa P.length pc, .slice qa Q.length qc, .int .i64 hf, .slice na N.length nc, .slice ta T.length tc, .slice ua U.length uc, .int .i64 now] 43)) 70 #[.int .i64 x0, .int .i64 x1, .int .i64 x2, .string x3, .int .i64 x4, .int .i64 x5, .int .i64 x6, .int .i64 x7, .int .i64 x8, .int .i64 x9, .int .i64 x10, .int .i64 x11, .int .i64 x12, .slice ma M.length mc]
    try simp only [World.size_alloc] at h9
    rw [hw0]; exact h9
  have X1 := Lib.hid x1_
  have HB0 := Lib.hid hb0
  have hz0 := hb0.size
  clear hb0  x0_ x1_
  go_enter Tryz.func102, Tryz.ntmps102
  go_upto_region 1 with fail
  rw [← hw0]
  clear hw0
  have qX1_0 := X1.out.at_ 0 rfl
  have qX1_1 := X1.out.at_ 1 rfl
  have qX1_2 := X1.out.at_ 2 rfl
  have qX1_3 := X1.out.at_ 3 rfl
  have qX1_4 := X1.out.at_ 4 rfl
  have qX1_5 := X1.out.at_ 5 rfl
  have qX1_6 := X1.out.at_ 6 rfl
  have qX1_7 := X1.out.at_ 7 rfl
  have qX1_8 := X1.out.at_ 8 rfl
  have qX1_9 := X1.out.at_ 9 rfl
  have qX1_10 := X1.out.at_ 10 rfl
  have qX1_11 := X1.out.at_ 11 rfl
  have qX1_12 := X1.out.at_ 12 rfl
  have qX1_13 := X1.out.at_ 13 rfl
  go_wp2_with fail
  refine (runsI_at HR.out _).mono ?_
  rintro e w1 ⟨rfl, hb⟩
  have HB1 := Lib.hid (HB0.out.trans (hb.mono hz0))
  have Z0 := Lib.hid (X0.out.call hb)
  have Z1 := Lib.hid (X1.out.call hb)
  have hz1 := HB1.out.size
  clear hb qX1_0 qX1_1 qX1_2 qX1_3 qX1_4 qX1_5 qX1_6 qX1_7 qX1_8 qX1_9 qX1_10 qX1_11 qX1_12 qX1_13
  cases br with
  | true =>
    have HRUN := Lib.hid (startT_run (now := now) (x := ((x0, x1), x2, x3, x4, x5, x6, (x7, x8), x9, x10, x11, x12, M)) (beq_iff_eq.1 HR.out))
    go_upto_region 2 with fail
    refine wp_region_held_drew (S := (fun V => Below (w1).heap.size (w1) V)) (by kernel_rfl) ((Below.refl _ _).drew) (fun hHeld => ?_)
    refine tk 0 hHeld ?_
    refine tk 1 hHeld ?_ (hy := fun w hSw => by (try dsimp only at hSw); have k0 := (hSw.cell (p := ⟨W.heap.size, 7, none⟩) Z0.out.lt).trans (Z0.out.at_ 7 rfl); clear hSw; go_simp; try with_reducible rfl)
    refine tk 2 hHeld ?_
    refine tk 3 hHeld ?_ (hy := fun w hSw => by (try dsimp only at hSw); have k0 := (hSw.cell (p := ⟨W.heap.size + 1, 12, none⟩) Z1.out.lt).trans (Z1.out.at_ 12 rfl); clear hSw; go_simp; try with_reducible rfl)
    refine tk 4 hHeld ?_ (hy := fun w hSw => by (try dsimp only at hSw); have k0 := (hSw.cell (p := ⟨W.heap.size + 1, 0, none⟩) Z1.out.lt).trans (Z1.out.at_ 0 rfl); have k1 := (hSw.cell (p := ⟨W.heap.size + 1, 1, none⟩) Z1.out.lt).trans (Z1.out.at_ 1 rfl); have k2 := (hSw.cell (p := ⟨W.heap.size + 1, 2, none⟩) Z1.out.lt).trans (Z1.out.at_ 2 rfl); have k3 := (hSw.cell (p := ⟨W.heap.size + 1, 3, none⟩) Z1.out.lt).trans (Z1.out.at_ 3 rfl); have k4 := (hSw.cell (p := ⟨W.heap.size + 1, 4, none⟩) Z1.out.lt).trans (Z1.out.at_ 4 rfl); have k5 := (hSw.cell (p := ⟨W.heap.size + 1, 5, none⟩) Z1.out.lt).trans (Z1.out.at_ 5 rfl); have k6 := (hSw.cell (p := ⟨W.heap.size + 1, 6, none⟩) Z1.out.lt).trans (Z1.out.at_ 6 rfl); have k7 := (hSw.cell (p := ⟨W.heap.size + 1, 7, none⟩) Z1.out.lt).trans (Z1.out.at_ 7 rfl); have k8 := (hSw.cell (p := ⟨W.heap.size + 1, 8, none⟩) Z1.out.lt).trans (Z1.out.at_ 8 rfl); have k9 := (hSw.cell (p := ⟨W.heap.size + 1, 9, none⟩) Z1.out.lt).trans (Z1.out.at_ 9 rfl); have k10 := (hSw.cell (p := ⟨W.heap.size + 1, 10, none⟩) Z1.out.lt).trans (Z1.out.at_ 10 rfl); have k11 := (hSw.cell (p := ⟨W.heap.size + 1, 11, none⟩) Z1.out.lt).trans (Z1.out.at_ 11 rfl); have k12 := (hSw.cell (p := ⟨W.heap.size + 1, 12, none⟩) Z1.out.lt).trans (Z1.out.at_ 12 rfl); have k13 := (hSw.cell (p := ⟨W.heap.size + 1, 13, none⟩) Z1.out.lt).trans (Z1.out.at_ 13 rfl); clear hSw; go_simp; try with_reducible rfl)
    refine rd1 5 (fun K hK => ?_)
    go_simp
    go_at_call 159
    refine (endI_at hst hlg).mono ?_
    rintro e w5 ⟨rfl, hb⟩
    refine hK.out _ _ (hHeld.trans (hb.mono hHeld.size)) (fun hHeld => ?_)
    clear hK K hb
    refine tk 6 hHeld ?_
    refine rd1 7 (fun K hK => ?_)
    go_simp
    go_at_call 90
    refine (wi_at _ _ _ H3.out _).mono ?_
    rintro e w6 ⟨rfl, rfl⟩
    have hb := Below.refl w5.heap.size w5
    refine hK.out _ _ (hHeld.trans (hb.mono hHeld.size)) (fun hHeld => ?_)
    clear hK K hb
    refine tk 8 hHeld ?_
    refine rd0 ?_
    have HF := Lib.hid hHeld
    clear hHeld
    have HBX := Lib.hid (HB1.out.trans (HF.out.mono hz1))
    clear HF
    have HV := Lib.hid (show b3 = true ↔ startT now ((x0, x1), x2, x3, x4, x5, x6, (x7, x8), x9, x10, x11, x12, M) from by
      rw [← H3.out, isB_iff, HRUN.out]
      show _ ↔ x12 ≤ now ∧ now < x12 + 1 + x5
      omega)
    go_wp2
    go_ret
    exact ⟨b3, rfl, HV.out, HBX.out⟩
  | false =>
    have qZ1_0 := Z1.out.at_ 0 rfl
    have qZ1_1 := Z1.out.at_ 1 rfl
    have qZ1_2 := Z1.out.at_ 2 rfl
    have qZ1_3 := Z1.out.at_ 3 rfl
    have qZ1_4 := Z1.out.at_ 4 rfl
    have qZ1_5 := Z1.out.at_ 5 rfl
    have qZ1_6 := Z1.out.at_ 6 rfl
    have qZ1_7 := Z1.out.at_ 7 rfl
    have qZ1_8 := Z1.out.at_ 8 rfl
    have qZ1_9 := Z1.out.at_ 9 rfl
    have qZ1_10 := Z1.out.at_ 10 rfl
    have qZ1_11 := Z1.out.at_ 11 rfl
    have qZ1_12 := Z1.out.at_ 12 rfl
    have qZ1_13 := Z1.out.at_ 13 rfl
    go_wp2_with fail
    refine (placeI_at HPl.out _).mono ?_
    rintro e w2 ⟨rfl, hb⟩
    have HB2 := Lib.hid (HB1.out.trans (hb.mono hz1))
    have V0 := Lib.hid (Z0.out.call hb)
    have V1 := Lib.hid (Z1.out.call hb)
    clear hb qZ1_0 qZ1_1 qZ1_2 qZ1_3 qZ1_4 qZ1_5 qZ1_6 qZ1_7 qZ1_8 qZ1_9 qZ1_10 qZ1_11 qZ1_12 qZ1_13
    cases bp with
    | true =>
      have HW := Lib.hid (startT_wait (now := now) (x := ((x0, x1), x2, x3, x4, x5, x6, (x7, x8), x9, x10, x11, x12, M)) (beq_eq_false_iff_ne.1 HR.out) (by have := of_decide_eq_true HPl.out; show M.length ≠ 0; omega))
      have v7 := V0.out.at_ 7 rfl
      have v12 := V1.out.at_ 12 rfl
      go_wp2_with fail
      refine (wi_at _ _ _ H4.out _).mono ?_
      rintro e w3 ⟨rfl, rfl⟩
      have HV := Lib.hid (show b4 = true ↔ startT now ((x0, x1), x2, x3, x4, x5, x6, (x7, x8), x9, x10, x11, x12, M) from by
        rw [← H4.out, isB_iff, HW.out]
        show _ ↔ now < x12 ∧ x12 ≤ now + 40
        omega)
      go_wp2
      go_ret
      exact ⟨b4, rfl, HV.out, HB2.out⟩
    | false =>
      have HV := Lib.hid (show startT now ((x0, x1), x2, x3, x4, x5, x6, (x7, x8), x9, x10, x11, x12, M) from startT_none (beq_eq_false_iff_ne.1 HR.out) (by have := of_decide_eq_false HPl.out; show M.length = 0; omega))
      go_wp2
      go_ret
      exact resB_yes HV.out HB2.out
end Go.Proofs.YtelhmacfljffhaaGreat.RepC
end
section
namespace Go.Proofs.YtelhmacfljffhaaGreat.RepC
open Go.RowKit RowC ValC
set_option linter.unusedVariables false
set_option linter.unusedSimpArgs false
def six (f : Nat → Bool) : Array Value := #[.bool (f 0), .bool (f 1), .bool (f 2), .bool (f 3), .bool (f 4), .bool (f 5)]
theorem six_at (f : Nat → Bool) {m : Nat} (hm : m < 6) : (six f)[m]? = some (.bool (f m)) := by
  match m, hm with
  | 0, _ => rfl
  | 1, _ => rfl
  | 2, _ => rfl
  | 3, _ => rfl
  | 4, _ => rfl
  | 5, _ => rfl
theorem six_set (f : Nat → Bool) {m : Nat} (hm : m < 6) : (six f).setIfInBounds m (.bool true) = six (fun i => f i || i == m) := by
  match m, hm with
  | 0, _ => simp [six]
  | 1, _ => simp [six]
  | 2, _ => simp [six]
  | 3, _ => simp [six]
  | 4, _ => simp [six]
  | 5, _ => simp [six]
def Usd (w : World) (g : Nat) (T : TypeId) (p : Int → Prop) : Prop := ∃ f : Nat → Bool, Blk w g T (six f) ∧ ∀ m : Nat, m < 6 → (f m = true ↔ p (m : Int))
theorem Usd.call {w w' : World} {g : Nat} {T : TypeId} {p : Int → Prop} (h : Usd w g T p) (hb : Below w.heap.size w w') : Usd w' g T p := by
  obtain ⟨f, h1, h2⟩ := h
  exact ⟨f, h1.call hb, h2⟩
theorem Usd.more {w : World} {g : Nat} {T : TypeId} {p q : Int → Prop} (h : Usd w g T p) (hpq : ∀ m : Nat, m < 6 → (p (m : Int) ↔ q (m : Int))) : Usd w g T q := by
  obtain ⟨f, h1, h2⟩ := h
  exact ⟨f, h1, fun m hm => (h2 m hm).trans (hpq m hm)⟩
theorem Usd.lt {w : World} {g : Nat} {T : TypeId} {p : Int → Prop} (h : Usd w g T p) : g < w.heap.size := by
  obtain ⟨f, h1, _⟩ := h
  exact h1.lt
theorem Usd.get {w : World} {g : Nat} {T : TypeId} {p : Int → Prop} (h : Usd w g T p) {m : Nat} (hm : m < 6) : ∃ b : Bool, w.cell? ⟨g, m, none⟩ = some (.bool b) ∧ w.frozen? ⟨g, m, none⟩ = false ∧ (b = true ↔ p (m : Int)) := by
  obtain ⟨f, h1, h2⟩ := h
  exact ⟨f m, h1.at_ m (six_at f hm), h1.soft m, h2 m hm⟩
theorem Usd.put {w : World} {g : Nat} {T : TypeId} {p : Int → Prop} (h : Usd w g T p) {m : Nat} (hm : m < 6) : Usd (w.setCell ⟨g, m, none⟩ (.bool true)) g T (fun n => p n ∨ n = (m : Int)) := by
  obtain ⟨f, h1, h2⟩ := h
  refine ⟨fun i => f i || i == m, by rw [← six_set f hm]; exact h1.set m _, fun i hi => ?_⟩
  have := h2 i hi
  simp only [Bool.or_eq_true, beq_iff_eq]
  constructor
  · rintro (h | h)
    · exact .inl (this.1 h)
    · exact .inr (by omega)
  · rintro (h | h)
    · exact .inl (this.2 h)
    · exact .inr (by omega)
theorem Usd.new (W : World) (T : TypeId) : Usd (W.alloc (.cells #[.bool false, .bool false, .bool false, .bool false, .bool false, .bool false] T)) W.heap.size T (fun _ => False) :=
  ⟨fun _ => false, Blk.new W T _, fun m _ => by simp⟩
end Go.Proofs.YtelhmacfljffhaaGreat.RepC
end
