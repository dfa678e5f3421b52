/- The law on JobsRight, out of the contracts. -/
import Derived.Test.YtfmgjkmlnaeagaaJobP
import Derived.Test.YtfmgjkmlnaeagaaJobO
namespace Go.Proofs.Ytfmgjkmlnaeagaa.RepC
open Go.RowKit RowC ValC SpanC KeptC
set_option linter.unusedVariables false
set_option linter.unusedSimpArgs false

theorem rd_sl {α : Type} {E : Rp α} (hE : Ok E) {L : List α} {a : Option Addr} {c : Nat} {w : World} {m : Nat} (h : OwSl E w (Rg m w.heap.size) L a c) : RdSl E w w.heap.size L a c := h.rd hE fun k hk => hk.2

set_option maxRecDepth 100000 in
set_option maxHeartbeats 6400000 in
theorem law_jobsright {L : List D_Job} {a : Option Addr} {cap : Nat} {W : World} (h : RdSl R_Job W W.heap.size L a cap) :
    Calls Try.prog 4 #[.slice a L.length cap] W fun e w' => e = .returned (.bool true) ∧ Below W.heap.size W w' := by
  have H := Lib.hid h
  clear h
  by_cases hsz : (Sl R_Job).sz L ≤ 1048576
  rotate_left
  · go_enter Try.func4, Try.ntmps4
    go_wp2_with fail
    refine (sz_JobS (by omega) (by omega) H.out).mono ?_
    intro e w1 h
    obtain ⟨rfl, hb⟩ := szC_elim h
    rw [szR_no (by omega)]
    have HB1 := Lib.hid hb
    clear h hb
    go_wp2
    go_ret
    exact ⟨rfl, HB1.out⟩
  have HSZ := Lib.hid hsz
  obtain ⟨m, hm⟩ : ∃ m : Nat, (Sl R_Job).sz L = m := ⟨_, rfl⟩
  have HM := Lib.hid hm
  rw [hm] at hsz
  clear hm
  have hlt1 : decide ((1048576 : Int) - (m : Int) < 0) = false := decide_eq_false (by omega)
  go_enter Try.func4, Try.ntmps4
  go_wp2_with fail
  refine (sz_JobS (by omega) (by omega) (H.out)).mono ?_
  intro e w1 h
  obtain ⟨rfl, hb⟩ := szC_elim h
  rw [HM.out, szR_yes (by omega)]
  have H_1 := Lib.hid (rd_mv R_Job_ok H.out hb)
  have HB1 := Lib.hid hb
  clear H
  clear h hb
  go_wp2_with fail
  refine (to_JobS HSZ.out (H_1.out)).mono ?_
  intro e w2 h
  obtain ⟨a2, c2, rfl, ho, hb⟩ := newS_elim h
  have H_2 := Lib.hid (rd_mv R_Job_ok H_1.out hb)
  have HB2 := Lib.hid (HB1.out.trans ((hb).mono HB1.out.size))
  clear H_1 HB1
  have N_2 := Lib.hid (rd_sl R_Job_ok ho)
  clear ho
  clear h hb
  go_wp2_with fail
  refine (jobs_spec (N_2.out)).mono ?_
  intro e w3 h
  obtain ⟨b, rfl, hq, hb⟩ := resB_elim h
  have HQ := Lib.hid hq
  clear hq
  have H_3 := Lib.hid (rd_mv R_Job_ok H_2.out hb)
  have N_3 := Lib.hid (rd_mv R_Job_ok N_2.out hb)
  have HB3 := Lib.hid (HB2.out.trans ((hb).mono HB2.out.size))
  clear H_2 N_2 HB2
  clear h hb
  clear N_3
  go_wp2_with fail
  refine (to_JobS HSZ.out (H_3.out)).mono ?_
  intro e w4 h
  obtain ⟨a4, c4, rfl, ho, hb⟩ := newS_elim h
  have H_4 := Lib.hid (rd_mv R_Job_ok H_3.out hb)
  have HB4 := Lib.hid (HB3.out.trans ((hb).mono HB3.out.size))
  clear H_3 HB3
  have N_4 := Lib.hid (rd_sl R_Job_ok ho)
  clear ho
  clear h hb
  go_wp2_with fail
  refine (jobs_impl (N_4.out)).mono ?_
  intro e w5 h
  obtain ⟨b', rfl, hq, hb⟩ := resB_elim h
  obtain rfl : b' = b := by rw [Bool.eq_iff_iff]; exact hq.trans HQ.out.symm
  have hbb : (b' != b') = false := by cases b' <;> rfl
  have H_5 := Lib.hid (rd_mv R_Job_ok H_4.out hb)
  have N_5 := Lib.hid (rd_mv R_Job_ok N_4.out hb)
  have HB5 := Lib.hid (HB4.out.trans ((hb).mono HB4.out.size))
  clear H_4 N_4 HB4
  clear hq HQ
  clear h hb
  go_wp2_with fail
  refine (to_JobS HSZ.out (H_5.out)).mono ?_
  intro e w6 h
  obtain ⟨a6, c6, rfl, ho, hb⟩ := newS_elim h
  have H_6 := Lib.hid (rd_mv R_Job_ok H_5.out hb)
  have N_6 := Lib.hid (rd_mv R_Job_ok N_5.out hb)
  have HB6 := Lib.hid (HB5.out.trans ((hb).mono HB5.out.size))
  clear H_5 N_5 HB5
  have M_6 := Lib.hid (rd_sl R_Job_ok ho)
  clear ho
  clear h hb
  go_wp2_with fail
  refine (eq_JobS (N_6.out) (M_6.out)).mono ?_
  intro e w7 h
  obtain ⟨rfl, hb⟩ := isB_elim h
  have H_7 := Lib.hid (rd_mv R_Job_ok H_6.out hb)
  have N_7 := Lib.hid (rd_mv R_Job_ok N_6.out hb)
  have M_7 := Lib.hid (rd_mv R_Job_ok M_6.out hb)
  have HB7 := Lib.hid (HB6.out.trans ((hb).mono HB6.out.size))
  clear H_6 N_6 M_6 HB6
  clear h hb
  go_wp2
  go_ret
  exact ⟨rfl, HB7.out⟩
end Go.Proofs.Ytfmgjkmlnaeagaa.RepC
