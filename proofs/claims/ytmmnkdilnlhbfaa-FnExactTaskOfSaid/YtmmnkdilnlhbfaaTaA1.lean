/- The look-up of a task in the model: a contract. -/
import Derived.Test.YtmmnkdilnlhbfaaTaR1
namespace Go.Proofs.Ytmmnkdilnlhbfaa.RepC
open Go.RowKit RowC ValC SpanC KeptC NameC
set_option linter.unusedVariables false
set_option linter.unusedSimpArgs false

theorem RdSl.take {α : Type} {E : Rp α} {W : World} {B : Nat} {L : List α} {a : Option Addr} {cap : Nat} (h : RdSl E W B L a cap) (k : Nat) : RdSl E W B (L.take k) a cap := by
  obtain ⟨h1, h2, h3⟩ := h
  refine ⟨Nat.le_trans (List.length_take_le' _ _) h1, h2, fun hn => ?_⟩
  have hl : 0 < L.length := Nat.lt_of_lt_of_le hn (List.length_take_le' _ _)
  obtain ⟨g, o, ha, hg, hc⟩ := h3 hl
  refine ⟨g, o, ha, hg, fun i x hx => ?_⟩
  rw [List.getElem?_take] at hx
  split at hx
  · exact hc i x hx
  · cases hx
theorem key_iff {x0 x1 x2 l0 l1 n : Int} : (((x0, x1), x2) : D_Label × Int) = ((l0, l1), n) ↔ decide (((x0, x1) : Int × Int) = (l0, l1)) = true ∧ (x2 == n) = true := by
  simp only [Prod.mk.injEq, decide_eq_true_eq, beq_iff_eq]
theorem nkT_step {L : List D_Task} {k : Nat} {x : D_Task} {a : D_Label × Int} (h : ∀ (i : Nat) (y : D_Task), i < k → L[i]? = some y → tKey y ≠ a) (hx : L[k]? = some x) (hk : tKey x ≠ a) : ∀ (i : Nat) (y : D_Task), i < k + 1 → L[i]? = some y → tKey y ≠ a := fun i y hi hy => by
  rcases Nat.lt_succ_iff_lt_or_eq.1 hi with h1 | h1
  · exact h i y h1 hy
  · subst h1; rw [hx] at hy; cases hy; exact hk
set_option maxRecDepth 100000 in
set_option maxHeartbeats 3200000 in
theorem at_spec {L : List D_Task} {n : Nat} {a : Option Addr} {cap : Nat} {l0 l1 id : Int} {W : World} (hLn : L.length = n) (h : RdSl R_Task W W.heap.size L a cap) :
    Calls Try.prog 60 #[.slice a n cap, .agg #[.int .i64 l0, .int .i64 l1], .int .i64 id] W fun e w' => e = .returned (.int .i64 (atT L ((l0, l1), id))) ∧ Below W.heap.size W w' := by
  subst hLn
  have hn : L.length ≤ 9223372036854775807 := by have h1 := h.1; have h2 := h.2.1; unfold maxLen at h2; omega
  have H := Lib.hid h
  clear h
  obtain ⟨wa, hwa⟩ : ∃ w, w = W.alloc (.cells #[.int .i64 l0, .int .i64 l1] 38) := ⟨_, rfl⟩
  have HBA := Lib.hid (show Below W.heap.size W wa from by rw [hwa]; exact (Below.refl _ _).alloc (Nat.le_refl _) _)
  have HP1 := Lib.hid (show Blk wa W.heap.size 38 #[.int .i64 l0, .int .i64 l1] from by rw [hwa]; exact Blk.new _ _ _)
  have HA1 := Lib.hid ((H.out.below R_Task_ok HBA.out).more R_Task_ok HBA.out.size)
  go_enter Try.func60, Try.ntmps60
  go_wp2_with fail
  rw [← hwa]
  clear hwa
  go_loopw [7] (fun i wr => ∃ k : Nat, k ≤ L.length ∧ i = .int .i64 k ∧ Hid (∀ (i : Nat) (y : D_Task), i < k → L[i]? = some y → tKey y ≠ ((l0, l1), id)) ∧ Below wa.heap.size wa wr) (fun i _ => L.length - (intOf i).toNat)
  case atStart => exact ⟨0, Nat.zero_le _, rfl, Lib.hid fun i y h => absurd h (Nat.not_lt_zero _), Below.refl _ _⟩
  case round =>
    obtain ⟨k, hk, rfl, HN, hB⟩ := hrel
    have HB := Lib.hid hB
    have HBW := Lib.hid (HBA.out.trans (hB.mono HBA.out.size))
    have hsz := hB.size
    by_cases hlt : k < L.length
    · skip
      obtain ⟨⟨⟨x0, x1⟩, x2, x3, x4, x5, x6, ⟨x7, x8⟩, x9, x10, x11, x12, M⟩, hx⟩ := el_some hlt
      have HX := Lib.hid hx
      obtain ⟨g, o, us, rfl, hg, hu, hr⟩ := (HA1.out.below R_Task_ok hB).at_ hx
      obtain ⟨ba, bc, rfl, k_M, b_x3⟩ := rd_Task hr
      have e0 : wr.cell? ⟨g, o + k * 14, none⟩ = some (.int .i64 x0) := by simpa [size_TaskS, Nat.add_assoc] using hu 0 _ rfl
      have e1 : wr.cell? ⟨g, o + k * 14 + 1, none⟩ = some (.int .i64 x1) := by simpa [size_TaskS, Nat.add_assoc] using hu 1 _ rfl
      have e2 : wr.cell? ⟨g, o + k * 14 + 2, none⟩ = some (.int .i64 x2) := by simpa [size_TaskS, Nat.add_assoc] using hu 2 _ rfl
      have HPR := Lib.hid (HP1.out.call hB)
      have q0 : wr.cell? ⟨W.heap.size, 0, none⟩ = some (.int .i64 l0) := HPR.out.at_ 0 rfl
      have q1 : wr.cell? ⟨W.heap.size, 1, none⟩ = some (.int .i64 l1) := HPR.out.at_ 1 rfl
      have hi0 : (0 : Int) ≤ (k : Int) := Int.natCast_nonneg _
      have hi1 : (k : Int) < (L.length : Int) := by omega
      obtain ⟨b, hb⟩ : ∃ b, decide (((x0, x1) : Int × Int) = (l0, l1)) = b := ⟨_, rfl⟩
      have hq := eql_lab x0 x1 l0 l1 b hb
      clear hu hr hg hB hx k_M
      cases b with
      | false =>
        have HN2 := Lib.hid (nkT_step HN.out HX.out (fun he => by have := (key_iff.1 he).1; rw [hb] at this; cases this))
        clear hb
        go_wp2_with fail
        go_quiet (fail)
        all_goals
          go_wp2
          go_roundw
          case rel => exact ⟨k + 1, by omega, by go_num, Lib.hid HN2.out, by first | exact HB.out | exact HB.out.drew | exact bdrewN HB.out _⟩
          case measure => simp [intOf]; omega
      | true =>
        obtain ⟨c, hc⟩ : ∃ c, (x2 == id) = c := ⟨_, rfl⟩
        cases c with
        | false =>
          have HN2 := Lib.hid (nkT_step HN.out HX.out (fun he => by have := (key_iff.1 he).2; rw [hc] at this; cases this))
          clear hb
          go_wp2_with fail
          go_quiet (fail)
          all_goals
            go_wp2
            go_roundw
            case rel => exact ⟨k + 1, by omega, by go_num, Lib.hid HN2.out, by first | exact HB.out | exact HB.out.drew | exact bdrewN HB.out _⟩
            case measure => simp [intOf]; omega
        | true =>
          have HF := Lib.hid (show atT L ((l0, l1), id) = (k : Int) from atT_hit HN.out HX.out (key_iff.2 ⟨hb, hc⟩))
          clear hb
          go_wp2_with fail
          go_quiet (fail)
          all_goals
            go_wp2
            go_ret
            exact ⟨by rw [HF.out]; rfl, by first | exact HBW.out | exact HBW.out.drew | exact bdrewN HBW.out _⟩
    · have hdl : decide ((k : Int) < (L.length : Int)) = false := decide_eq_false (by omega)
      obtain rfl : k = L.length := by omega
      have HF := Lib.hid (show atT L ((l0, l1), id) = -1 from atT_miss HN.out)
      clear hB
      go_wp2
      go_ret
      exact ⟨by rw [HF.out]; rfl, HBW.out⟩
theorem taskS_w {x : D_Task} {cs : List Value} {W : World} (h : R_Task.rd W W.heap.size x cs) : Calls Try.prog 58 #[.agg cs.toArray] W fun e w' => e = .returned (.bool (taskB x)) ∧ Below W.heap.size W w' := by
  obtain ⟨⟨x0, x1⟩, x2, x3, x4, x5, x6, ⟨x7, x8⟩, x9, x10, x11, x12, M⟩ := x
  obtain ⟨ba, bc, rfl, k, b⟩ := rd_Task h
  exact (taskP_spec b k).mono fun e w' h => resB_is taskB_iff h
end Go.Proofs.Ytmmnkdilnlhbfaa.RepC
