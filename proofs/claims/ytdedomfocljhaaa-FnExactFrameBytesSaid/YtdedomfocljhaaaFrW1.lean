/- The law on FrameBytes, out of the contracts. -/
import Derived.Test.YtdedomfocljhaaaFrGv
namespace Go.Proofs.Ytdedomfocljhaaa.RepC
open Go.RowKit RowC ValC SpanC KeptC
set_option linter.unusedVariables false
set_option linter.unusedSimpArgs false

set_option maxRecDepth 100000 in
set_option maxHeartbeats 4000000 in
theorem law_framebytes {Fx0 : Int} {Fx1 : ByteArray}  {W : World} (hF : R_Frame.rd W W.heap.size (Fx0, Fx1) [.int .i64 Fx0, .string Fx1]) :
    Calls Try.prog 3 #[.agg #[.int .i64 Fx0, .string Fx1]] W fun e w' => e = .returned (.bool true) ∧ Below W.heap.size W w' := by
  have HF := Lib.hid hF
  have HF0 := Lib.hid hF
  clear hF
  have hbA : Below (W).heap.size (W) (W.alloc (.cells #[.int .i64 Fx0, .string Fx1] 23)) := (Below.refl _ _).alloc (Nat.le_refl _) _
  have HF_1 := Lib.hid (gmv R_Frame_ok HF.out hbA)
  have HB1 := Lib.hid (show Below W.heap.size W (W.alloc (.cells #[.int .i64 Fx0, .string Fx1] 23)) from hbA)
  have HZ1 := Lib.hid ((hbA).size)
  clear HF
  have PF_1 := Blk.new (W) 23 #[.int .i64 Fx0, .string Fx1]
  have PFh_1 := Lib.hid PF_1
  clear PF_1 hbA
  by_cases hsz : R_Frame.sz (Fx0, Fx1) ≤ 1048576
  rotate_left
  · skip
    go_enter Try.func3, Try.ntmps3
    have qPF_0 := PFh_1.out.at_ 0 rfl
    have qPF_1 := PFh_1.out.at_ 1 rfl
    go_wp2_with fail
    refine (gsz_Frame (by omega) (by omega) HF_1.out).mono ?_
    intro e w2 h
    obtain ⟨rfl, hb⟩ := szC_elim h
    rw [szR_no (by omega)]
    clear qPF_0 qPF_1
    have PF_2 := Lib.hid (PFh_1.out.call hb)
    have HF_2 := Lib.hid (gmv R_Frame_ok HF_1.out hb)
    have HB2 := Lib.hid (HB1.out.trans ((hb).mono HB1.out.size))
    have HZ2 := Lib.hid ((hb).size)
    clear PFh_1 HF_1 HB1
    clear h hb
    go_wp2
    go_ret
    exact ⟨rfl, HB2.out⟩
  have HSZF := Lib.hid hsz
  have HSAF := Lib.hid (cvs_Frame hsz)
  obtain ⟨m, hm⟩ : ∃ m : Nat, R_Frame.sz (Fx0, Fx1) = m := ⟨_, rfl⟩
  have HM := Lib.hid hm
  rw [hm] at hsz
  clear hm
  have hlt1 : decide ((1048576 : Int) - (m : Int) < 0) = false := decide_eq_false (by omega)
  obtain ⟨dR, hD⟩ : ∃ d, FrC.bytesF Fx0 Fx1 = d := ⟨_, rfl⟩
  have HDD := Lib.hid hD
  clear hD
  go_enter Try.func3, Try.ntmps3
  have qPF_0 := PFh_1.out.at_ 0 rfl
  have qPF_1 := PFh_1.out.at_ 1 rfl
  go_wp2_with fail
  refine (gsz_Frame (by omega) (by omega) HF_1.out).mono ?_
  intro e w2 h
  obtain ⟨rfl, hb⟩ := szC_elim h
  rw [HM.out, szR_yes (by omega)]
  clear qPF_0 qPF_1
  have PF_2 := Lib.hid (PFh_1.out.call hb)
  have HF_2 := Lib.hid (gmv R_Frame_ok HF_1.out hb)
  have HB2 := Lib.hid (HB1.out.trans ((hb).mono HB1.out.size))
  have HZ2 := Lib.hid ((hb).size)
  clear PFh_1 HF_1 HB1
  clear hsz
  clear h hb
  have HPL := Lib.hid (PF_2.out.lt)
  have qPF_0 := PF_2.out.at_ 0 rfl
  have qPF_1 := PF_2.out.at_ 1 rfl
  go_wp2_with fail
  refine (gto_Frame HSZF.out HF_2.out).mono ?_
  intro e w3 h
  obtain ⟨us, rfl, hu, hb⟩ := newV_elim h
  obtain ⟨rfl, hu⟩ := owc_Frame hu
  clear qPF_0 qPF_1
  have PF_3 := Lib.hid (PF_2.out.call hb)
  have HF_3 := Lib.hid (gmv R_Frame_ok HF_2.out hb)
  have HB3 := Lib.hid (HB2.out.trans ((hb).mono HB2.out.size))
  have HZ3 := Lib.hid ((hb).size)
  clear PF_2 HF_2 HB2
  have NF_3 := Lib.hid (owG_new hu)
  clear hu
  clear h hb
  go_wp2_with fail
  refine (gfb_spec (NF_3.out.rd R_Frame_ok)).mono ?_
  intro e w4 h
  rw [HDD.out] at h
  obtain ⟨rfl, hb⟩ := h
  have h := hb
  have PF_4 := Lib.hid (PF_3.out.call hb)
  have HF_4 := Lib.hid (gmv R_Frame_ok HF_3.out hb)
  have NF_4 := Lib.hid (NF_3.out.mv R_Frame_ok hb)
  have HB4 := Lib.hid (HB3.out.trans ((hb).mono HB3.out.size))
  have HZ4 := Lib.hid ((hb).size)
  clear PF_3 HF_3 NF_3 HB3
  clear h hb
  clear NF_4
  have qPF_0 := PF_4.out.at_ 0 rfl
  have qPF_1 := PF_4.out.at_ 1 rfl
  go_wp2_with fail
  refine (gto_Frame HSZF.out HF_4.out).mono ?_
  intro e w5 h
  obtain ⟨us, rfl, hu, hb⟩ := newV_elim h
  obtain ⟨rfl, hu⟩ := owc_Frame hu
  clear qPF_0 qPF_1
  have PF_5 := Lib.hid (PF_4.out.call hb)
  have HF_5 := Lib.hid (gmv R_Frame_ok HF_4.out hb)
  have HB5 := Lib.hid (HB4.out.trans ((hb).mono HB4.out.size))
  have HZ5 := Lib.hid ((hb).size)
  clear PF_4 HF_4 HB4
  have NF_5 := Lib.hid (owG_new hu)
  clear hu
  clear h hb
  go_wp2_with fail
  refine (gfb_impl (NF_5.out.rd R_Frame_ok)).mono ?_
  intro e w6 h
  rw [HDD.out] at h
  obtain ⟨rfl, hb⟩ := h
  have h := hb
  have PF_6 := Lib.hid (PF_5.out.call hb)
  have HF_6 := Lib.hid (gmv R_Frame_ok HF_5.out hb)
  have NF_6 := Lib.hid (NF_5.out.mv R_Frame_ok hb)
  have HB6 := Lib.hid (HB5.out.trans ((hb).mono HB5.out.size))
  have HZ6 := Lib.hid ((hb).size)
  clear PF_5 HF_5 NF_5 HB5
  clear h hb
  clear NF_6
  go_wp2
  go_ret
  exact ⟨rfl, HB6.out⟩
end Go.Proofs.Ytdedomfocljhaaa.RepC
