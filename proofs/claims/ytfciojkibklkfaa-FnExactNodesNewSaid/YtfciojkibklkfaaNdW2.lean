/- The law on NodesNew, out of the contracts. -/
import Derived.Test.YtfciojkibklkfaaNdGv
import Derived.Test.YtfciojkibklkfaaNdN
import Derived.Test.YtfciojkibklkfaaNdO2
namespace Go.Proofs.Ytfciojkibklkfaa.RepC
open Go.RowKit RowC ValC SpanC KeptC
set_option linter.unusedVariables false
set_option linter.unusedSimpArgs false

theorem new_small {n : Int} {R : List D_Node} (hd : newV n = R) : (Sl R_Node).cv R ≤ 1048576 := by
  rw [← hd]
  have h := cm_nodes (newV n)
  show sumL R_Node.cm (newV n) ≤ _
  cases hq : isB n 1 6 with
  | false => rw [newV_no hq]; decide
  | true =>
    rw [newV_yes hq] at h ⊢
    have hn := (isB_iff _ _ _).1 hq
    have key : ∀ m : Nat, m ≤ 6 → sumL R_Node.cm (List.replicate m (1, [])) ≤ 6 := by
      intro m hm
      match m, hm with
      | 0, _ => decide
      | 1, _ => decide
      | 2, _ => decide
      | 3, _ => decide
      | 4, _ => decide
      | 5, _ => decide
      | 6, _ => decide
      | m + 7, h => omega
    have := key n.toNat (by omega)
    omega
set_option maxRecDepth 100000 in
set_option maxHeartbeats 4000000 in
theorem law_nodesnew {N : Int} {W : World} :
    Calls Try.prog 5 #[.int .i64 N] W fun e w' => e = .returned (.bool true) ∧ Below W.heap.size W w' := by
  obtain ⟨dR, hD⟩ : ∃ d, newV N = d := ⟨_, rfl⟩
  have HDD := Lib.hid hD
  have HSM := Lib.hid (new_small hD)
  clear hD
  go_enter Try.func5, Try.ntmps5
  go_wp2_with fail
  refine (new_spec N _).mono ?_
  intro e w1 h
  rw [HDD.out] at h
  obtain ⟨raw, rcw, rfl, hu, hb⟩ := newS_elim2 h
  have HB1 := Lib.hid (show Below W.heap.size W (w1) from hb)
  have HZ1 := Lib.hid ((hb).size)
  have Yw_1 := Lib.hid (owG_new hu)
  have HSw := Lib.hid (fun k (hk : Rg W.heap.size w1.heap.size k) => hk)
  clear hu
  clear h hb
  go_wp2_with fail
  refine (new_impl N _).mono ?_
  intro e w2 h
  rw [HDD.out] at h
  obtain ⟨rag, rcg, rfl, hu, hb⟩ := newS_elim2 h
  have Yw_2 := Lib.hid (Yw_1.out.mv (Sl_ok R_Node_ok) hb)
  have HB2 := Lib.hid (HB1.out.trans ((hb).mono HB1.out.size))
  have HZ2 := Lib.hid ((hb).size)
  clear Yw_1 HB1
  have Yg_2 := Lib.hid (owG_new hu)
  have HSg := Lib.hid (fun k (hk : Rg w1.heap.size w2.heap.size k) => hk)
  clear hu
  clear h hb
  go_wp2_with fail
  refine (geq_NodeS (Yg_2.out.rd (Sl_ok R_Node_ok)) (Yw_2.out.rd (Sl_ok R_Node_ok))).mono ?_
  intro e w3 h
  obtain ⟨rfl, hb⟩ := isB_elim h
  have Yw_3 := Lib.hid (Yw_2.out.mv (Sl_ok R_Node_ok) hb)
  have Yg_3 := Lib.hid (Yg_2.out.mv (Sl_ok R_Node_ok) hb)
  have HB3 := Lib.hid (HB2.out.trans ((hb).mono HB2.out.size))
  have HZ3 := Lib.hid ((hb).size)
  clear Yw_2 Yg_2 HB2
  clear h hb
  go_wp2_with fail
  refine (gmark_NodeS (by omega) (by have h1 := HSM.out; omega) Yg_3.out.2 Yg_3.out.1).mono ?_
  intro e wn h
  obtain ⟨dN, zN, rfl, hmv, hzz, ho, hoff⟩ := markG_elim h
  have HB4 := Lib.hid (HB3.out.trans (hoff.below HB3.out.size (fun k hk => by have zHZ1 := HZ1.out; have zHZ2 := HZ2.out; have zHZ3 := HZ3.out; have rg := HSg.out _ hk; try unfold Rg at rg; omega)))
  have Yw_4 := Lib.hid (Yw_3.out.off (Sl_ok R_Node_ok) hoff (fun k hk hk2 => by have zHZ1 := HZ1.out; have zHZ2 := HZ2.out; have zHZ3 := HZ3.out; have rg := HSg.out k hk2; try unfold Rg at rg; have rw := HSw.out k hk; try unfold Rg at rw; omega))
  have Yg_4 := Lib.hid (show OwG (Sl R_Node) wn _ dN _ from ⟨ho, fun k hk => Nat.lt_of_lt_of_le (Yg_3.out.2 k hk) hoff.size⟩)
  have HMV := Lib.hid hmv
  have hzn : decide (zN < 0) = false := decide_eq_false (by omega)
  have hze : (zN != zN) = false := by simp
  have hzb : zN ≤ 4611686018427387904 := by have := HSM.out; omega
  have HZ4 := Lib.hid (hoff.size)
  clear h hmv hzz ho hoff
  go_wp2_with fail
  refine (gheld_NodeS (by omega) hzb HMV.out (Yg_4.out.rd (Sl_ok R_Node_ok))).mono ?_
  intro e w5 h
  obtain ⟨rfl, hb⟩ := heldC_elim h
  have Yw_5 := Lib.hid (Yw_4.out.mv (Sl_ok R_Node_ok) hb)
  have Yg_5 := Lib.hid (Yg_4.out.mv (Sl_ok R_Node_ok) hb)
  have HB5 := Lib.hid (HB4.out.trans ((hb).mono HB4.out.size))
  have HZ5 := Lib.hid ((hb).size)
  clear Yw_4 Yg_4 HB4
  clear h hb
  go_wp2_with fail
  refine (new_impl N _).mono ?_
  intro e w6 h
  rw [HDD.out] at h
  obtain ⟨rah, rch, rfl, hu, hb⟩ := newS_elim2 h
  have Yw_6 := Lib.hid (Yw_5.out.mv (Sl_ok R_Node_ok) hb)
  have Yg_6 := Lib.hid (Yg_5.out.mv (Sl_ok R_Node_ok) hb)
  have HB6 := Lib.hid (HB5.out.trans ((hb).mono HB5.out.size))
  have HZ6 := Lib.hid ((hb).size)
  clear Yw_5 Yg_5 HB5
  have Yh_6 := Lib.hid (owG_new hu)
  have HSh := Lib.hid (fun k (hk : Rg w5.heap.size w6.heap.size k) => hk)
  clear hu
  clear h hb
  go_wp2_with fail
  refine (geq_NodeS (Yh_6.out.rd (Sl_ok R_Node_ok)) (Yw_6.out.rd (Sl_ok R_Node_ok))).mono ?_
  intro e w7 h
  obtain ⟨rfl, hb⟩ := isB_elim h
  have Yw_7 := Lib.hid (Yw_6.out.mv (Sl_ok R_Node_ok) hb)
  have Yg_7 := Lib.hid (Yg_6.out.mv (Sl_ok R_Node_ok) hb)
  have Yh_7 := Lib.hid (Yh_6.out.mv (Sl_ok R_Node_ok) hb)
  have HB7 := Lib.hid (HB6.out.trans ((hb).mono HB6.out.size))
  have HZ7 := Lib.hid ((hb).size)
  clear Yw_6 Yg_6 Yh_6 HB6
  clear h hb
  go_wp2_with fail
  refine (gheld_NodeS (by omega) hzb HMV.out (Yg_7.out.rd (Sl_ok R_Node_ok))).mono ?_
  intro e w8 h
  obtain ⟨rfl, hb⟩ := heldC_elim h
  have Yw_8 := Lib.hid (Yw_7.out.mv (Sl_ok R_Node_ok) hb)
  have Yg_8 := Lib.hid (Yg_7.out.mv (Sl_ok R_Node_ok) hb)
  have Yh_8 := Lib.hid (Yh_7.out.mv (Sl_ok R_Node_ok) hb)
  have HB8 := Lib.hid (HB7.out.trans ((hb).mono HB7.out.size))
  have HZ8 := Lib.hid ((hb).size)
  clear Yw_7 Yg_7 Yh_7 HB7
  clear h hb
  go_wp2
  go_ret
  exact ⟨rfl, HB8.out⟩
end Go.Proofs.Ytfciojkibklkfaa.RepC
