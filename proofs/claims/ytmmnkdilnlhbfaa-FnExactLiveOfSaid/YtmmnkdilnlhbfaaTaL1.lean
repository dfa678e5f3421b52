/- LiveOf of both sides: contracts. -/
import Derived.Test.YtmmnkdilnlhbfaaTk
import Derived.Test.YtmmnkdilnlhbfaaTaR4
import Derived.Test.YtmmnkdilnlhbfaaTaLi
namespace Go.Proofs.Ytmmnkdilnlhbfaa.RepC
open Go.RowKit RowC ValC SpanC KeptC NameC
set_option linter.unusedVariables false
set_option linter.unusedSimpArgs false

set_option maxRecDepth 100000 in
set_option maxHeartbeats 3200000 in
theorem live_impl {L : List D_Task} {a : Option Addr} {cap : Nat} {l0 l1 : Int} {W : World} (h : RdSl R_Task W W.heap.size L a cap) :
    Calls Try.prog 33 #[.slice a L.length cap, .agg #[.int .i64 l0, .int .i64 l1]] W (OfL L (l0, l1) W) := by
  have hn : L.length ≤ 9223372036854775807 := by have h1 := h.1; have h2 := h.2.1; unfold maxLen at h2; omega
  have H := Lib.hid h
  clear h
  obtain ⟨wa, hwa⟩ : ∃ w, w = W.alloc (.cells #[.int .i64 l0, .int .i64 l1] 38) := ⟨_, rfl⟩
  have HBA := Lib.hid (show Below W.heap.size W wa from by rw [hwa]; exact (Below.refl _ _).alloc (Nat.le_refl _) _)
  have HPA := Lib.hid (show Blk wa W.heap.size 38 #[.int .i64 l0, .int .i64 l1] from by rw [hwa]; exact Blk.new _ _ _)
  have HA := Lib.hid ((H.out.below R_Task_ok HBA.out).more R_Task_ok HBA.out.size)
  go_enter Try.func33, Try.ntmps33
  go_wp2_with fail
  rw [← hwa]
  clear hwa
  refine (tasks_impl HA.out).mono ?_
  intro e w1 h
  obtain ⟨rfl, hb⟩ := isB_elim h
  have HB1 := Lib.hid (HBA.out.trans (hb.mono HBA.out.size))
  have HP1 := Lib.hid (HPA.out.call hb)
  have HA1 := Lib.hid ((HA.out.below R_Task_ok hb).more R_Task_ok hb.size)
  clear h hb HPA HA
  cases hq : tasksB L with
  | false =>
    have HE := Lib.hid (liveOf_no (a := (l0, l1)) hq)
    clear hq
    go_wp2
    go_ret
    exact ⟨by rw [HE.out]; rfl, HB1.out⟩
  | true =>
    have HE := Lib.hid (liveOf_yes (a := (l0, l1)) hq)
    have HR := Lib.hid (tasksB_iff.1 hq)
    have hn96 : L.length ≤ 96 := HR.out.1
    clear hq
    have a0 := HP1.out.at_ 0 rfl
    have a1 := HP1.out.at_ 1 rfl
    go_wp2_with fail
    refine (livein_impl hn96 HA1.out).mono ?_
    rintro e w2 ⟨rfl, hb⟩
    have HB2 := Lib.hid (HB1.out.trans (hb.mono HB1.out.size))
    clear hb
    go_wp2
    go_ret
    exact ⟨by rw [HE.out]; rfl, HB2.out⟩
end Go.Proofs.Ytmmnkdilnlhbfaa.RepC
