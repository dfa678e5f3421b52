/- The law on WishRight, out of the contracts. -/
import Derived.Test.YtelhmacfljffhaaYaW
import Derived.Test.YtelhmacfljffhaaYwG
import Derived.Test.YtelhmacfljffhaaYwO
namespace Go.Proofs.Ytelhmacfljffhaa.RepC
open Go.RowKit RowC ValC SpanC KeptC
set_option linter.unusedVariables false
set_option linter.unusedSimpArgs false

set_option maxRecDepth 100000 in
set_option maxHeartbeats 4000000 in
theorem law_wishright {Qx0 : ByteArray} {Qx1 : Int} {Qx2 : Int} {Qx3 : Int} {Qx4 : Int} {Qx5 : Int} {Qx6 : Int} {Qx7 : Int}  {W : World} (hQ : R_Wish.rd W W.heap.size (Qx0, Qx1, Qx2, Qx3, (Qx4, Qx5), Qx6, Qx7) [.string Qx0, .int .i64 Qx1, .int .i64 Qx2, .int .i64 Qx3, .int .i64 Qx4, .int .i64 Qx5, .int .i64 Qx6, .int .i64 Qx7]) :
    Calls Try.prog 3 #[.agg #[.string Qx0, .int .i64 Qx1, .int .i64 Qx2, .int .i64 Qx3, .int .i64 Qx4, .int .i64 Qx5, .int .i64 Qx6, .int .i64 Qx7]] W fun e w' => e = .returned (.bool true) ∧ Below W.heap.size W w' := by
  have HQ := Lib.hid hQ
  have HQ0 := Lib.hid hQ
  clear hQ
  have hbA : Below (W).heap.size (W) (W.alloc (.cells #[.string Qx0, .int .i64 Qx1, .int .i64 Qx2, .int .i64 Qx3, .int .i64 Qx4, .int .i64 Qx5, .int .i64 Qx6, .int .i64 Qx7] 25)) := (Below.refl _ _).alloc (Nat.le_refl _) _
  have HQ_1 := Lib.hid (gmv R_Wish_ok HQ.out hbA)
  have HB1 := Lib.hid (show Below W.heap.size W (W.alloc (.cells #[.string Qx0, .int .i64 Qx1, .int .i64 Qx2, .int .i64 Qx3, .int .i64 Qx4, .int .i64 Qx5, .int .i64 Qx6, .int .i64 Qx7] 25)) from hbA)
  have HZ1 := Lib.hid ((hbA).size)
  clear HQ
  have PQ_1 := Blk.new (W) 25 #[.string Qx0, .int .i64 Qx1, .int .i64 Qx2, .int .i64 Qx3, .int .i64 Qx4, .int .i64 Qx5, .int .i64 Qx6, .int .i64 Qx7]
  have PQh_1 := Lib.hid PQ_1
  clear PQ_1 hbA
  by_cases hsz : R_Wish.sz (Qx0, Qx1, Qx2, Qx3, (Qx4, Qx5), Qx6, Qx7) ≤ 1048576
  rotate_left
  · skip
    go_enter Try.func3, Try.ntmps3
    have qPQ_0 := PQh_1.out.at_ 0 rfl
    have qPQ_1 := PQh_1.out.at_ 1 rfl
    have qPQ_2 := PQh_1.out.at_ 2 rfl
    have qPQ_3 := PQh_1.out.at_ 3 rfl
    have qPQ_4 := PQh_1.out.at_ 4 rfl
    have qPQ_5 := PQh_1.out.at_ 5 rfl
    have qPQ_6 := PQh_1.out.at_ 6 rfl
    have qPQ_7 := PQh_1.out.at_ 7 rfl
    go_wp2_with fail
    refine (gsz_Wish (by omega) (by omega) HQ_1.out).mono ?_
    intro e w2 h
    obtain ⟨rfl, hb⟩ := szC_elim h
    rw [szR_no (by omega)]
    clear qPQ_0 qPQ_1 qPQ_2 qPQ_3 qPQ_4 qPQ_5 qPQ_6 qPQ_7
    have PQ_2 := Lib.hid (PQh_1.out.call hb)
    have HQ_2 := Lib.hid (gmv R_Wish_ok HQ_1.out hb)
    have HB2 := Lib.hid (HB1.out.trans ((hb).mono HB1.out.size))
    have HZ2 := Lib.hid ((hb).size)
    clear PQh_1 HQ_1 HB1
    clear h hb
    go_wp2
    go_ret
    exact ⟨rfl, HB2.out⟩
  have HSZQ := Lib.hid hsz
  have HSAQ := Lib.hid (hsz)
  obtain ⟨m, hm⟩ : ∃ m : Nat, R_Wish.sz (Qx0, Qx1, Qx2, Qx3, (Qx4, Qx5), Qx6, Qx7) = m := ⟨_, rfl⟩
  have HM := Lib.hid hm
  rw [hm] at hsz
  clear hm
  have hlt1 : decide ((1048576 : Int) - (m : Int) < 0) = false := decide_eq_false (by omega)
  obtain ⟨dR, hD⟩ : ∃ d, wishB (Qx0, Qx1, Qx2, Qx3, (Qx4, Qx5), Qx6, Qx7) = d := ⟨_, rfl⟩
  have HDD := Lib.hid hD
  clear hD
  go_enter Try.func3, Try.ntmps3
  have qPQ_0 := PQh_1.out.at_ 0 rfl
  have qPQ_1 := PQh_1.out.at_ 1 rfl
  have qPQ_2 := PQh_1.out.at_ 2 rfl
  have qPQ_3 := PQh_1.out.at_ 3 rfl
  have qPQ_4 := PQh_1.out.at_ 4 rfl
  have qPQ_5 := PQh_1.out.at_ 5 rfl
  have qPQ_6 := PQh_1.out.at_ 6 rfl
  have qPQ_7 := PQh_1.out.at_ 7 rfl
  go_wp2_with fail
  refine (gsz_Wish (by omega) (by omega) HQ_1.out).mono ?_
  intro e w2 h
  obtain ⟨rfl, hb⟩ := szC_elim h
  rw [HM.out, szR_yes (by omega)]
  clear qPQ_0 qPQ_1 qPQ_2 qPQ_3 qPQ_4 qPQ_5 qPQ_6 qPQ_7
  have PQ_2 := Lib.hid (PQh_1.out.call hb)
  have HQ_2 := Lib.hid (gmv R_Wish_ok HQ_1.out hb)
  have HB2 := Lib.hid (HB1.out.trans ((hb).mono HB1.out.size))
  have HZ2 := Lib.hid ((hb).size)
  clear PQh_1 HQ_1 HB1
  clear hsz
  clear h hb
  have HPL := Lib.hid (PQ_2.out.lt)
  have hbb : (dR != dR) = false := by cases dR <;> rfl
  have qPQ_0 := PQ_2.out.at_ 0 rfl
  have qPQ_1 := PQ_2.out.at_ 1 rfl
  have qPQ_2 := PQ_2.out.at_ 2 rfl
  have qPQ_3 := PQ_2.out.at_ 3 rfl
  have qPQ_4 := PQ_2.out.at_ 4 rfl
  have qPQ_5 := PQ_2.out.at_ 5 rfl
  have qPQ_6 := PQ_2.out.at_ 6 rfl
  have qPQ_7 := PQ_2.out.at_ 7 rfl
  go_wp2_with fail
  refine (gto_Wish HSZQ.out HQ_2.out).mono ?_
  intro e w3 h
  obtain ⟨us, rfl, hu, hb⟩ := newV_elim h
  obtain ⟨rfl, hu⟩ := owc_Wish hu
  clear qPQ_0 qPQ_1 qPQ_2 qPQ_3 qPQ_4 qPQ_5 qPQ_6 qPQ_7
  have PQ_3 := Lib.hid (PQ_2.out.call hb)
  have HQ_3 := Lib.hid (gmv R_Wish_ok HQ_2.out hb)
  have HB3 := Lib.hid (HB2.out.trans ((hb).mono HB2.out.size))
  have HZ3 := Lib.hid ((hb).size)
  clear PQ_2 HQ_2 HB2
  have NQ_3 := Lib.hid (owG_new hu)
  clear hu
  clear h hb
  go_wp2_with fail
  refine (gwish_spec (NQ_3.out.rd R_Wish_ok)).mono ?_
  intro e w4 h
  rw [HDD.out] at h
  obtain ⟨rfl, hb⟩ := isB_elim h
  have PQ_4 := Lib.hid (PQ_3.out.call hb)
  have HQ_4 := Lib.hid (gmv R_Wish_ok HQ_3.out hb)
  have NQ_4 := Lib.hid (NQ_3.out.mv R_Wish_ok hb)
  have HB4 := Lib.hid (HB3.out.trans ((hb).mono HB3.out.size))
  have HZ4 := Lib.hid ((hb).size)
  clear PQ_3 HQ_3 NQ_3 HB3
  clear h hb
  clear NQ_4
  have qPQ_0 := PQ_4.out.at_ 0 rfl
  have qPQ_1 := PQ_4.out.at_ 1 rfl
  have qPQ_2 := PQ_4.out.at_ 2 rfl
  have qPQ_3 := PQ_4.out.at_ 3 rfl
  have qPQ_4 := PQ_4.out.at_ 4 rfl
  have qPQ_5 := PQ_4.out.at_ 5 rfl
  have qPQ_6 := PQ_4.out.at_ 6 rfl
  have qPQ_7 := PQ_4.out.at_ 7 rfl
  go_wp2_with fail
  refine (gto_Wish HSZQ.out HQ_4.out).mono ?_
  intro e w5 h
  obtain ⟨us, rfl, hu, hb⟩ := newV_elim h
  obtain ⟨rfl, hu⟩ := owc_Wish hu
  clear qPQ_0 qPQ_1 qPQ_2 qPQ_3 qPQ_4 qPQ_5 qPQ_6 qPQ_7
  have PQ_5 := Lib.hid (PQ_4.out.call hb)
  have HQ_5 := Lib.hid (gmv R_Wish_ok HQ_4.out hb)
  have HB5 := Lib.hid (HB4.out.trans ((hb).mono HB4.out.size))
  have HZ5 := Lib.hid ((hb).size)
  clear PQ_4 HQ_4 HB4
  have NQ_5 := Lib.hid (owG_new hu)
  clear hu
  clear h hb
  go_wp2_with fail
  refine (gwish_impl (NQ_5.out.rd R_Wish_ok)).mono ?_
  intro e w6 h
  rw [HDD.out] at h
  obtain ⟨rfl, hb⟩ := isB_elim h
  have PQ_6 := Lib.hid (PQ_5.out.call hb)
  have HQ_6 := Lib.hid (gmv R_Wish_ok HQ_5.out hb)
  have NQ_6 := Lib.hid (NQ_5.out.mv R_Wish_ok hb)
  have HB6 := Lib.hid (HB5.out.trans ((hb).mono HB5.out.size))
  have HZ6 := Lib.hid ((hb).size)
  clear PQ_5 HQ_5 NQ_5 HB5
  clear h hb
  clear NQ_6
  go_wp2
  go_ret
  exact ⟨rfl, HB6.out⟩
end Go.Proofs.Ytelhmacfljffhaa.RepC
