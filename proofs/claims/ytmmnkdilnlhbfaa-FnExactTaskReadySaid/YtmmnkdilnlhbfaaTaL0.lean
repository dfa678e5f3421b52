/- LiveOf of the model: a contract. -/
import Derived.Test.YtmmnkdilnlhbfaaTk
import Derived.Test.YtmmnkdilnlhbfaaTk
import Derived.Test.YtmmnkdilnlhbfaaTaR3
namespace Go.Proofs.Ytmmnkdilnlhbfaa.RepC
open Go.RowKit RowC ValC SpanC KeptC NameC
set_option linter.unusedVariables false
set_option linter.unusedSimpArgs false

def liveB (x : D_Task) (a : D_Label) : Bool := decide (tLab x = a) && isB (tState x) 1 3
def liveTo (L : List D_Task) (a : D_Label) (k : Nat) : Nat := ((L.take k).filter (fun x => liveB x a)).length
noncomputable def liveOf (L : List D_Task) (a : D_Label) : Int := if tasksB L = true then (liveTo L a L.length : Int) else 0
theorem liveOf_yes {L : List D_Task} {a : D_Label} (h : tasksB L = true) : liveOf L a = (liveTo L a L.length : Int) := if_pos h
theorem liveOf_no {L : List D_Task} {a : D_Label} (h : tasksB L = false) : liveOf L a = 0 := if_neg (by rw [h]; decide)
theorem liveTo_zero {L : List D_Task} {a : D_Label} : liveTo L a 0 = 0 := by simp [liveTo]
theorem liveTo_yes {L : List D_Task} {a : D_Label} {k : Nat} {x : D_Task} (hx : L[k]? = some x) (h : liveB x a = true) : liveTo L a (k + 1) = liveTo L a k + 1 := by
  unfold liveTo
  rw [List.take_add_one, hx, Option.toList_some, List.filter_append, List.length_append]
  simp [h]
theorem liveTo_no {L : List D_Task} {a : D_Label} {k : Nat} {x : D_Task} (hx : L[k]? = some x) (h : liveB x a = false) : liveTo L a (k + 1) = liveTo L a k := by
  unfold liveTo
  rw [List.take_add_one, hx, Option.toList_some, List.filter_append, List.length_append]
  simp [h]
theorem liveTo_le {L : List D_Task} {a : D_Label} (k : Nat) : liveTo L a k ≤ k := by
  unfold liveTo
  exact Nat.le_trans (List.length_filter_le _ _) (List.length_take_le _ _)
theorem liveS_at (st : Int) {b : Bool} (hb : isB st 1 3 = b) (w : World) : Calls Try.prog 68 #[.int .i64 st] w fun e w' => e = .returned (.bool b) ∧ Below w.heap.size w w' := by
  by_cases h1 : st = 1
  · have h1' : (st == 1) = true := beq_iff_eq.2 h1
    have HE := Lib.hid (show b = true from by rw [← hb, isB_iff]; omega)
    clear h1
    go_enter Try.func68, Try.ntmps68
    go_wp2
    go_ret
    exact ⟨by rw [HE.out]; rfl, Below.refl _ _⟩
  have h1' : (st == 1) = false := beq_eq_false_iff_ne.2 h1
  by_cases h2 : st = 2
  · have h2' : (st == 2) = true := beq_iff_eq.2 h2
    have HE := Lib.hid (show b = true from by rw [← hb, isB_iff]; omega)
    clear h2 h1
    go_enter Try.func68, Try.ntmps68
    go_wp2
    go_ret
    exact ⟨by rw [HE.out]; rfl, Below.refl _ _⟩
  have h2' : (st == 2) = false := beq_eq_false_iff_ne.2 h2
  have HE := Lib.hid (show b = (st == 3) from by
    rw [← hb, Bool.eq_iff_iff, isB_iff, beq_iff_eq]; omega)
  clear h1 h2
  go_enter Try.func68, Try.ntmps68
  go_wp2
  go_ret
  exact ⟨by rw [HE.out]; rfl, Below.refl _ _⟩
def OfL (L : List D_Task) (a : D_Label) (W : World) (e : Ending) (w' : World) : Prop := e = .returned (.int .i64 (liveOf L a)) ∧ Below W.heap.size W w'
set_option maxRecDepth 100000 in
set_option maxHeartbeats 3200000 in
theorem live_spec {L : List D_Task} {a : Option Addr} {cap : Nat} {l0 l1 : Int} {W : World} (h : RdSl R_Task W W.heap.size L a cap) :
    Calls Try.prog 32 #[.slice a L.length cap, .agg #[.int .i64 l0, .int .i64 l1]] W (OfL L (l0, l1) W) := by
  have hn : L.length ≤ 9223372036854775807 := by have h1 := h.1; have h2 := h.2.1; unfold maxLen at h2; omega
  have H := Lib.hid h
  clear h
  obtain ⟨wa, hwa⟩ : ∃ w, w = W.alloc (.cells #[.int .i64 l0, .int .i64 l1] 38) := ⟨_, rfl⟩
  have HBA := Lib.hid (show Below W.heap.size W wa from by rw [hwa]; exact (Below.refl _ _).alloc (Nat.le_refl _) _)
  have HPA := Lib.hid (show Blk wa W.heap.size 38 #[.int .i64 l0, .int .i64 l1] from by rw [hwa]; exact Blk.new _ _ _)
  have HA := Lib.hid ((H.out.below R_Task_ok HBA.out).more R_Task_ok HBA.out.size)
  go_enter Try.func32, Try.ntmps32
  go_wp2_with fail
  rw [← hwa]
  clear hwa
  refine (tasks_spec HA.out).mono ?_
  intro e w1 h
  obtain ⟨rfl, hb⟩ := isB_elim h
  have HB1 := Lib.hid (HBA.out.trans (hb.mono HBA.out.size))
  have HP1 := Lib.hid (HPA.out.call hb)
  have HA1 := Lib.hid ((HA.out.below R_Task_ok hb).more R_Task_ok hb.size)
  clear h hb HPA HA
  cases hq : tasksB L with
  | false =>
    have HE := Lib.hid (liveOf_no (a := (l0, l1)) hq)
    clear hq
    go_wp2
    go_ret
    exact ⟨by rw [HE.out]; rfl, HB1.out⟩
  | true =>
    have HE := Lib.hid (liveOf_yes (a := (l0, l1)) hq)
    have HR := Lib.hid (tasksB_iff.1 hq)
    have hn96 : L.length ≤ 96 := HR.out.1
    clear hq
    go_wp2
    go_loopw [5, 6] (fun q i wr => ∃ k : Nat, k ≤ L.length ∧ i = .int .i64 k ∧ q = .int .i64 (liveTo L (l0, l1) k) ∧ Below w1.heap.size w1 wr) (fun _ i _ => L.length - (intOf i).toNat)
    case atStart => exact ⟨0, Nat.zero_le _, rfl, by rw [liveTo_zero]; rfl, Below.refl _ _⟩
    case round =>
      obtain ⟨k, hk, rfl, rfl, hB⟩ := hrel
      have HB := Lib.hid hB
      have HBW := Lib.hid (HB1.out.trans (hB.mono HB1.out.size))
      have hsz := hB.size
      by_cases hlt : k < L.length
      · skip
        obtain ⟨⟨⟨x0, x1⟩, x2, x3, x4, x5, x6, ⟨x7, x8⟩, x9, x10, x11, x12, M⟩, hx⟩ := el_some hlt
        have HX := Lib.hid hx
        obtain ⟨g, o, us, rfl, hg, hu, hr⟩ := (HA1.out.below R_Task_ok hB).at_ hx
        obtain ⟨ba, bc, rfl, k_M, b_x3⟩ := rd_Task hr
        have e0 : wr.cell? ⟨g, o + k * 14, none⟩ = some (.int .i64 x0) := by simpa [size_TaskS, Nat.add_assoc] using hu 0 _ rfl
        have e1 : wr.cell? ⟨g, o + k * 14 + 1, none⟩ = some (.int .i64 x1) := by simpa [size_TaskS, Nat.add_assoc] using hu 1 _ rfl
        have e2 : wr.cell? ⟨g, o + k * 14 + 2, none⟩ = some (.int .i64 x2) := by simpa [size_TaskS, Nat.add_assoc] using hu 2 _ rfl
        have e3 : wr.cell? ⟨g, o + k * 14 + 3, none⟩ = some (.string x3) := by simpa [size_TaskS, Nat.add_assoc] using hu 3 _ rfl
        have e4 : wr.cell? ⟨g, o + k * 14 + 4, none⟩ = some (.int .i64 x4) := by simpa [size_TaskS, Nat.add_assoc] using hu 4 _ rfl
        have e5 : wr.cell? ⟨g, o + k * 14 + 5, none⟩ = some (.int .i64 x5) := by simpa [size_TaskS, Nat.add_assoc] using hu 5 _ rfl
        have e6 : wr.cell? ⟨g, o + k * 14 + 6, none⟩ = some (.int .i64 x6) := by simpa [size_TaskS, Nat.add_assoc] using hu 6 _ rfl
        have e7 : wr.cell? ⟨g, o + k * 14 + 7, none⟩ = some (.int .i64 x7) := by simpa [size_TaskS, Nat.add_assoc] using hu 7 _ rfl
        have e8 : wr.cell? ⟨g, o + k * 14 + 8, none⟩ = some (.int .i64 x8) := by simpa [size_TaskS, Nat.add_assoc] using hu 8 _ rfl
        have e9 : wr.cell? ⟨g, o + k * 14 + 9, none⟩ = some (.int .i64 x9) := by simpa [size_TaskS, Nat.add_assoc] using hu 9 _ rfl
        have e10 : wr.cell? ⟨g, o + k * 14 + 10, none⟩ = some (.int .i64 x10) := by simpa [size_TaskS, Nat.add_assoc] using hu 10 _ rfl
        have e11 : wr.cell? ⟨g, o + k * 14 + 11, none⟩ = some (.int .i64 x11) := by simpa [size_TaskS, Nat.add_assoc] using hu 11 _ rfl
        have e12 : wr.cell? ⟨g, o + k * 14 + 12, none⟩ = some (.int .i64 x12) := by simpa [size_TaskS, Nat.add_assoc] using hu 12 _ rfl
        have e13 : wr.cell? ⟨g, o + k * 14 + 13, none⟩ = some (.slice ba M.length bc) := by simpa [size_TaskS, Nat.add_assoc] using hu 13 _ rfl
        have HPR := Lib.hid (HP1.out.call hB)
        have hi0 : (0 : Int) ≤ (k : Int) := Int.natCast_nonneg _
        have hi1 : (k : Int) < (L.length : Int) := by omega
        have hgl : g < wr.heap.size := Nat.lt_of_lt_of_le hg hsz
        have hle := liveTo_le (L := L) (a := (l0, l1)) k
        obtain ⟨n, hnn⟩ : ∃ n, liveTo L (l0, l1) k = n := ⟨_, rfl⟩
        have HNN := Lib.hid hnn
        rw [hnn] at hle
        rw [hnn]
        have hnw : IntKind.i64.wrap ((n : Int) + 1) = (n : Int) + 1 := IntWalk.i64_in _ (by omega)
        clear hnn
        obtain ⟨b, hb⟩ : ∃ b, decide (((x0, x1) : Int × Int) = (l0, l1)) = b := ⟨_, rfl⟩
        have hq := eql_lab x0 x1 l0 l1 b hb
        obtain ⟨c, hc⟩ : ∃ c, isB x11 1 3 = c := ⟨_, rfl⟩
        have HLV := Lib.hid (show liveB ((x0, x1), x2, x3, x4, x5, x6, (x7, x8), x9, x10, x11, x12, M) (l0, l1) = (b && c) from by rw [← hb, ← hc]; rfl)
        have HC := Lib.hid hc
        clear hu hr hg hB hx k_M hb hc
        cases b with
        | false =>
          have HT := Lib.hid (liveTo_no HX.out (by rw [HLV.out]; rfl))
          go_wp2_with fail
          refine wp_region_held_drew (S := (fun V => Below (wr).heap.size (wr) V)) (by kernel_rfl) ((Below.refl _ _).drew) (fun hHeld => ?_)
          refine tk 0 hHeld ?_
          refine tk 1 hHeld ?_
          refine tk 2 hHeld ?_
          refine tk 3 hHeld ?_
          refine tk 4 hHeld ?_ (hy := fun w hSw => by (try dsimp only at hSw); have k0 := (hSw.cell (p := ⟨g, o + k * 14, none⟩) hgl).trans e0; have k1 := (hSw.cell (p := ⟨g, o + k * 14 + 1, none⟩) hgl).trans e1; clear hSw; go_simp; try with_reducible rfl)
          refine tk 5 hHeld ?_ (hy := fun w hSw => by (try dsimp only at hSw); have k0 := (hSw.cell (p := ⟨W.heap.size, 0, none⟩) HPR.out.lt).trans (HPR.out.at_ 0 rfl); have k1 := (hSw.cell (p := ⟨W.heap.size, 1, none⟩) HPR.out.lt).trans (HPR.out.at_ 1 rfl); clear hSw; go_simp; try with_reducible rfl)
          refine tk 6 hHeld ?_
          refine tk 7 hHeld ?_
          refine tn 8 hHeld ?_
          refine tn 9 hHeld ?_
          refine tn 10 hHeld ?_
          refine tn 11 hHeld ?_
          refine tn 12 hHeld ?_
          refine tn 13 hHeld ?_
          refine tk 14 hHeld ?_
          refine rd0 ?_
          have HF := Lib.hid hHeld
          clear hHeld
          have HB9 := Lib.hid (HB.out.trans (HF.out.mono hsz))
          go_wp2
          go_roundw
          case rel => exact ⟨k + 1, by omega, by go_num, by first | (rw [HT.out, HNN.out]; done) | (rw [HT.out, HNN.out]; rfl) | (rw [HT.out, HNN.out]; go_num), by first | exact HB9.out | exact HB9.out.drew | exact bdrewN HB9.out _⟩
          case measure => simp [intOf]; omega
        | true =>
          cases c with
          | false =>
            have HT := Lib.hid (liveTo_no HX.out (by rw [HLV.out]; rfl))
            go_wp2_with fail
            refine wp_region_held_drew (S := (fun V => Below (wr).heap.size (wr) V)) (by kernel_rfl) ((Below.refl _ _).drew) (fun hHeld => ?_)
            refine tk 0 hHeld ?_
            refine tk 1 hHeld ?_
            refine tk 2 hHeld ?_
            refine tk 3 hHeld ?_
            refine tk 4 hHeld ?_ (hy := fun w hSw => by (try dsimp only at hSw); have k0 := (hSw.cell (p := ⟨g, o + k * 14, none⟩) hgl).trans e0; have k1 := (hSw.cell (p := ⟨g, o + k * 14 + 1, none⟩) hgl).trans e1; clear hSw; go_simp; try with_reducible rfl)
            refine tk 5 hHeld ?_ (hy := fun w hSw => by (try dsimp only at hSw); have k0 := (hSw.cell (p := ⟨W.heap.size, 0, none⟩) HPR.out.lt).trans (HPR.out.at_ 0 rfl); have k1 := (hSw.cell (p := ⟨W.heap.size, 1, none⟩) HPR.out.lt).trans (HPR.out.at_ 1 rfl); clear hSw; go_simp; try with_reducible rfl)
            refine tk 6 hHeld ?_
            refine tk 7 hHeld ?_
            refine tk 8 hHeld ?_
            refine tk 9 hHeld ?_
            refine tk 10 hHeld ?_
            refine tk 11 hHeld ?_
            refine tk 12 hHeld ?_ (hy := fun w hSw => by (try dsimp only at hSw); have k0 := (hSw.cell (p := ⟨g, o + k * 14 + 11, none⟩) hgl).trans e11; clear hSw; go_simp; try with_reducible rfl)
            refine rd1 13 (fun K hK => ?_)
            go_simp
            go_at_call 68
            refine (liveS_at _ HC.out _).mono ?_
            rintro e w3 ⟨rfl, hb⟩
            refine hK.out _ _ (hHeld.trans (hb.mono hHeld.size)) (fun hHeld => ?_)
            clear hK K hb
            refine tk 14 hHeld ?_
            refine rd0 ?_
            have HF := Lib.hid hHeld
            clear hHeld
            have HB9 := Lib.hid (HB.out.trans (HF.out.mono hsz))
            go_wp2
            go_roundw
            case rel => exact ⟨k + 1, by omega, by go_num, by first | (rw [HT.out, HNN.out]; done) | (rw [HT.out, HNN.out]; rfl) | (rw [HT.out, HNN.out]; go_num), by first | exact HB9.out | exact HB9.out.drew | exact bdrewN HB9.out _⟩
            case measure => simp [intOf]; omega
          | true =>
            have HT := Lib.hid (liveTo_yes HX.out (by rw [HLV.out]; rfl))
            go_wp2_with fail
            refine wp_region_held_drew (S := (fun V => Below (wr).heap.size (wr) V)) (by kernel_rfl) ((Below.refl _ _).drew) (fun hHeld => ?_)
            refine tk 0 hHeld ?_
            refine tk 1 hHeld ?_
            refine tk 2 hHeld ?_
            refine tk 3 hHeld ?_
            refine tk 4 hHeld ?_ (hy := fun w hSw => by (try dsimp only at hSw); have k0 := (hSw.cell (p := ⟨g, o + k * 14, none⟩) hgl).trans e0; have k1 := (hSw.cell (p := ⟨g, o + k * 14 + 1, none⟩) hgl).trans e1; clear hSw; go_simp; try with_reducible rfl)
            refine tk 5 hHeld ?_ (hy := fun w hSw => by (try dsimp only at hSw); have k0 := (hSw.cell (p := ⟨W.heap.size, 0, none⟩) HPR.out.lt).trans (HPR.out.at_ 0 rfl); have k1 := (hSw.cell (p := ⟨W.heap.size, 1, none⟩) HPR.out.lt).trans (HPR.out.at_ 1 rfl); clear hSw; go_simp; try with_reducible rfl)
            refine tk 6 hHeld ?_
            refine tk 7 hHeld ?_
            refine tk 8 hHeld ?_
            refine tk 9 hHeld ?_
            refine tk 10 hHeld ?_
            refine tk 11 hHeld ?_
            refine tk 12 hHeld ?_ (hy := fun w hSw => by (try dsimp only at hSw); have k0 := (hSw.cell (p := ⟨g, o + k * 14 + 11, none⟩) hgl).trans e11; clear hSw; go_simp; try with_reducible rfl)
            refine rd1 13 (fun K hK => ?_)
            go_simp
            go_at_call 68
            refine (liveS_at _ HC.out _).mono ?_
            rintro e w3 ⟨rfl, hb⟩
            refine hK.out _ _ (hHeld.trans (hb.mono hHeld.size)) (fun hHeld => ?_)
            clear hK K hb
            refine tk 14 hHeld ?_
            refine rd0 ?_
            have HF := Lib.hid hHeld
            clear hHeld
            have HB9 := Lib.hid (HB.out.trans (HF.out.mono hsz))
            go_wp2
            go_roundw
            case rel => exact ⟨k + 1, by omega, by go_num, by first | (rw [HT.out, HNN.out]; done) | (rw [HT.out, HNN.out]; rfl) | (rw [HT.out, HNN.out]; go_num), by first | exact HB9.out | exact HB9.out.drew | exact bdrewN HB9.out _⟩
            case measure => simp [intOf]; omega
      · have hdl : decide ((k : Int) < (L.length : Int)) = false := decide_eq_false (by omega)
        obtain rfl : k = L.length := by omega
        clear hB
        go_wp2
        go_ret
        exact ⟨by rw [HE.out]; rfl, HBW.out⟩
end Go.Proofs.Ytmmnkdilnlhbfaa.RepC
