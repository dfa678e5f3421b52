/- EntryBytes, in the program and in its model: contracts. -/
import Derived.Test.YtdimpopkkjpddaaDoorEnR
import Derived.Test.YtdimpopkkjpddaaDoorSeal
namespace Go.Proofs.YtdimpopkkjpddaaDoor.EnC
open Go.RowKit KeptC LabC RepC
set_option linter.unusedVariables false
set_option linter.unusedSimpArgs false

def cat6 (x0 x1 x2 x3 x4 x5 : Int) : ByteArray := PutM.encB x0 ++ PutM.encB x1 ++ PutM.encB x2 ++ PutM.encB x3 ++ PutM.encB x4 ++ PutM.encB x5
def bytesE (x0 x1 x2 x3 x4 x5 : Int) : ByteArray := if entB x0 x1 x2 x3 x4 x5 = true then SealC.sealOf (cat6 x0 x1 x2 x3 x4 x5) else { data := #[] }
theorem bytes_yes {x0 x1 x2 x3 x4 x5 : Int} (h : entB x0 x1 x2 x3 x4 x5 = true) : bytesE x0 x1 x2 x3 x4 x5 = SealC.sealOf (cat6 x0 x1 x2 x3 x4 x5) := if_pos h
theorem bytes_no {x0 x1 x2 x3 x4 x5 : Int} (h : entB x0 x1 x2 x3 x4 x5 = false) : bytesE x0 x1 x2 x3 x4 x5 = { data := #[] } := if_neg (by simp [h])
theorem ent_range {x0 x1 x2 x3 x4 x5 : Int} (h : entB x0 x1 x2 x3 x4 x5 = true) : (0 ≤ x0 ∧ x0 ≤ 100) ∧ (0 ≤ x1 ∧ x1 ≤ 100) ∧ (0 ≤ x2 ∧ x2 ≤ 100) ∧ (0 ≤ x3 ∧ x3 ≤ 100) ∧ (0 ≤ x4 ∧ x4 ≤ 100) ∧ (0 ≤ x5 ∧ x5 ≤ 100) := by
  simp only [entB, rB, LabC.isB, kindB, Bool.and_eq_true, Bool.or_eq_true, decide_eq_true_eq, beq_iff_eq] at h
  omega
theorem enc_small {n : Int} (h : 0 ≤ n ∧ n ≤ 100) : (PutM.encB n).size ≤ 10 := by
  have := PutM.enc_len64 (PutM.foldN_lt (n := n) (by omega) (by omega))
  have e : (PutM.encB n).size = (PutM.enc (PutM.foldN n)).length := by simp [PutM.encB, PutM.bytesOf, ByteArray.size]
  omega
theorem put_s (n : Int) {b : ByteArray} (hb : PutM.encB n = b) (h : 0 ≤ n ∧ n ≤ 100) (w : World) : Calls Tryd.prog 99 #[.int .i64 n] w fun e w' => e = .returned (.string b) ∧ Below w.heap.size w w' := by
  subst hb
  exact PutC.put_spec n w (by omega) (by omega)
theorem seal_s {s u : ByteArray} (h : SealC.sealOf s = u) (hs : s.size ≤ 60) (w : World) : Calls Tryd.prog 98 #[.string s] w fun e w' => e = .returned (.string u) ∧ Below w.heap.size w w' := by
  subst h
  exact SealC.seal_spec s w (by unfold maxLen; omega)
set_option maxRecDepth 100000 in
set_option maxHeartbeats 1600000 in
theorem l07_spec (x0 x1 x2 x3 x4 x5 : Int) (hE : entB x0 x1 x2 x3 x4 x5 = true) (W : World) :
    Calls Tryd.prog 81 #[.agg #[.int .i64 x0, .int .i64 x1, .int .i64 x2, .int .i64 x3, .int .i64 x4, .int .i64 x5]] W fun e w' => e = .returned (.string (SealC.sealOf (cat6 x0 x1 x2 x3 x4 x5))) ∧ Below W.heap.size W w' := by
  obtain ⟨b0, g0⟩ : ∃ b, PutM.encB x0 = b := ⟨_, rfl⟩
  obtain ⟨b1, g1⟩ : ∃ b, PutM.encB x1 = b := ⟨_, rfl⟩
  obtain ⟨b2, g2⟩ : ∃ b, PutM.encB x2 = b := ⟨_, rfl⟩
  obtain ⟨b3, g3⟩ : ∃ b, PutM.encB x3 = b := ⟨_, rfl⟩
  obtain ⟨b4, g4⟩ : ∃ b, PutM.encB x4 = b := ⟨_, rfl⟩
  obtain ⟨b5, g5⟩ : ∃ b, PutM.encB x5 = b := ⟨_, rfl⟩
  obtain ⟨r0, r1, r2, r3, r4, r5⟩ := ent_range hE
  have s0 := enc_small r0
  rw [g0] at s0
  have s1 := enc_small r1
  rw [g1] at s1
  have s2 := enc_small r2
  rw [g2] at s2
  have s3 := enc_small r3
  rw [g3] at s3
  have s4 := enc_small r4
  rw [g4] at s4
  have s5 := enc_small r5
  rw [g5] at s5
  obtain ⟨u, hu⟩ : ∃ u, SealC.sealOf (cat6 x0 x1 x2 x3 x4 x5) = u := ⟨_, rfl⟩
  have HU0 := Lib.hid hu
  rw [hu]
  unfold cat6 at hu
  rw [g0, g1, g2, g3, g4, g5] at hu
  have G0 := Lib.hid g0
  have G1 := Lib.hid g1
  have G2 := Lib.hid g2
  have G3 := Lib.hid g3
  have G4 := Lib.hid g4
  have G5 := Lib.hid g5
  have HU := Lib.hid hu
  clear g0 g1 g2 g3 g4 g5 hu hE
  have z0 := s0
  have z1 : (b0 ++ b1).size ≤ 20 := by rw [ByteArray.size_append]; omega
  have hadd1 := fun w : World => run_string_add_sum (P := Tryd.prog) w b0 b1 (by omega)
  have z2 : ((b0 ++ b1) ++ b2).size ≤ 30 := by rw [ByteArray.size_append]; omega
  have hadd2 := fun w : World => run_string_add_sum (P := Tryd.prog) w (b0 ++ b1) b2 (by omega)
  have z3 : (((b0 ++ b1) ++ b2) ++ b3).size ≤ 40 := by rw [ByteArray.size_append]; omega
  have hadd3 := fun w : World => run_string_add_sum (P := Tryd.prog) w ((b0 ++ b1) ++ b2) b3 (by omega)
  have z4 : ((((b0 ++ b1) ++ b2) ++ b3) ++ b4).size ≤ 50 := by rw [ByteArray.size_append]; omega
  have hadd4 := fun w : World => run_string_add_sum (P := Tryd.prog) w (((b0 ++ b1) ++ b2) ++ b3) b4 (by omega)
  have z5 : (((((b0 ++ b1) ++ b2) ++ b3) ++ b4) ++ b5).size ≤ 60 := by rw [ByteArray.size_append]; omega
  have hadd5 := fun w : World => run_string_add_sum (P := Tryd.prog) w ((((b0 ++ b1) ++ b2) ++ b3) ++ b4) b5 (by omega)
  obtain ⟨Wv, hV⟩ : ∃ V, V = W.alloc (.cells #[.int .i64 x0, .int .i64 x1, .int .i64 x2, .int .i64 x3, .int .i64 x4, .int .i64 x5] 25) := ⟨_, rfl⟩
  have HP := Lib.hid (show Blk Wv W.heap.size 25 #[.int .i64 x0, .int .i64 x1, .int .i64 x2, .int .i64 x3, .int .i64 x4, .int .i64 x5] from by rw [hV]; exact Blk.new _ _ _)
  have HB := Lib.hid (show Below W.heap.size W Wv from by rw [hV]; exact (Below.refl _ _).alloc (Nat.le_refl _) _)
  go_enter Tryd.func81, Tryd.ntmps81
  go_upto_region 1 with fail
  rw [← hV]
  clear hV
  refine wp_region_held_drew (S := (fun V => Below (Wv).heap.size (Wv) V)) (by kernel_rfl) ((Below.refl _ _).drew) (fun hHeld => ?_)
  (refine wpAnyH_take (i := 0) (v := ?hv1) rfl (by kernel_rfl) (by kernel_rfl) (by kernel_rfl) (fun _ _ _ h => h) (Or.inl ⟨by kernel_rfl, ?hy1⟩) hHeld ?hr1; case hy1 => (intro w hSw; (try dsimp only at hSw); go_simp; try with_reducible rfl))
  simp only [Act.put, List.getElem_toArray, List.getElem_cons_succ, List.getElem_cons_zero, List.setIfInBounds_toArray, List.set_cons_zero, List.set_cons_succ]
  (refine wpAnyH_take (i := 1) (v := ?hv2) rfl (by kernel_rfl) (by kernel_rfl) (by kernel_rfl) (fun _ _ _ h => h) (Or.inl ⟨by kernel_rfl, ?hy2⟩) hHeld ?hr2; case hy2 => (intro w hSw; (try dsimp only at hSw); have k0 := (hSw.cell (p := ⟨W.heap.size, 0, none⟩) HP.out.lt).trans (HP.out.at_ 0 rfl); clear hSw; go_simp; try with_reducible rfl))
  simp only [Act.put, List.getElem_toArray, List.getElem_cons_succ, List.getElem_cons_zero, List.setIfInBounds_toArray, List.set_cons_zero, List.set_cons_succ]
  (refine wpAnyH_take (i := 3) (v := ?hv3) rfl (by kernel_rfl) (by kernel_rfl) (by kernel_rfl) (fun _ _ _ h => h) (Or.inl ⟨by kernel_rfl, ?hy3⟩) hHeld ?hr3; case hy3 => (intro w hSw; (try dsimp only at hSw); go_simp; try with_reducible rfl))
  simp only [Act.put, List.getElem_toArray, List.getElem_cons_succ, List.getElem_cons_zero, List.setIfInBounds_toArray, List.set_cons_zero, List.set_cons_succ]
  (refine wpAnyH_take (i := 4) (v := ?hv4) rfl (by kernel_rfl) (by kernel_rfl) (by kernel_rfl) (fun _ _ _ h => h) (Or.inl ⟨by kernel_rfl, ?hy4⟩) hHeld ?hr4; case hy4 => (intro w hSw; (try dsimp only at hSw); go_simp; try with_reducible rfl))
  simp only [Act.put, List.getElem_toArray, List.getElem_cons_succ, List.getElem_cons_zero, List.setIfInBounds_toArray, List.set_cons_zero, List.set_cons_succ]
  (refine wpAnyH_take (i := 5) (v := ?hv5) rfl (by kernel_rfl) (by kernel_rfl) (by kernel_rfl) (fun _ _ _ h => h) (Or.inl ⟨by kernel_rfl, ?hy5⟩) hHeld ?hr5; case hy5 => (intro w hSw; (try dsimp only at hSw); have k0 := (hSw.cell (p := ⟨W.heap.size, 1, none⟩) HP.out.lt).trans (HP.out.at_ 1 rfl); clear hSw; go_simp; try with_reducible rfl))
  simp only [Act.put, List.getElem_toArray, List.getElem_cons_succ, List.getElem_cons_zero, List.setIfInBounds_toArray, List.set_cons_zero, List.set_cons_succ]
  (refine wpAnyH_take (i := 8) (v := ?hv6) rfl (by kernel_rfl) (by kernel_rfl) (by kernel_rfl) (fun _ _ _ h => h) (Or.inl ⟨by kernel_rfl, ?hy6⟩) hHeld ?hr6; case hy6 => (intro w hSw; (try dsimp only at hSw); go_simp; try with_reducible rfl))
  simp only [Act.put, List.getElem_toArray, List.getElem_cons_succ, List.getElem_cons_zero, List.setIfInBounds_toArray, List.set_cons_zero, List.set_cons_succ]
  (refine wpAnyH_take (i := 9) (v := ?hv7) rfl (by kernel_rfl) (by kernel_rfl) (by kernel_rfl) (fun _ _ _ h => h) (Or.inl ⟨by kernel_rfl, ?hy7⟩) hHeld ?hr7; case hy7 => (intro w hSw; (try dsimp only at hSw); go_simp; try with_reducible rfl))
  simp only [Act.put, List.getElem_toArray, List.getElem_cons_succ, List.getElem_cons_zero, List.setIfInBounds_toArray, List.set_cons_zero, List.set_cons_succ]
  (refine wpAnyH_take (i := 10) (v := ?hv8) rfl (by kernel_rfl) (by kernel_rfl) (by kernel_rfl) (fun _ _ _ h => h) (Or.inl ⟨by kernel_rfl, ?hy8⟩) hHeld ?hr8; case hy8 => (intro w hSw; (try dsimp only at hSw); have k0 := (hSw.cell (p := ⟨W.heap.size, 2, none⟩) HP.out.lt).trans (HP.out.at_ 2 rfl); clear hSw; go_simp; try with_reducible rfl))
  simp only [Act.put, List.getElem_toArray, List.getElem_cons_succ, List.getElem_cons_zero, List.setIfInBounds_toArray, List.set_cons_zero, List.set_cons_succ]
  (refine wpAnyH_take (i := 13) (v := ?hv9) rfl (by kernel_rfl) (by kernel_rfl) (by kernel_rfl) (fun _ _ _ h => h) (Or.inl ⟨by kernel_rfl, ?hy9⟩) hHeld ?hr9; case hy9 => (intro w hSw; (try dsimp only at hSw); go_simp; try with_reducible rfl))
  simp only [Act.put, List.getElem_toArray, List.getElem_cons_succ, List.getElem_cons_zero, List.setIfInBounds_toArray, List.set_cons_zero, List.set_cons_succ]
  (refine wpAnyH_take (i := 14) (v := ?hv10) rfl (by kernel_rfl) (by kernel_rfl) (by kernel_rfl) (fun _ _ _ h => h) (Or.inl ⟨by kernel_rfl, ?hy10⟩) hHeld ?hr10; case hy10 => (intro w hSw; (try dsimp only at hSw); have k0 := (hSw.cell (p := ⟨W.heap.size, 3, none⟩) HP.out.lt).trans (HP.out.at_ 3 rfl); clear hSw; go_simp; try with_reducible rfl))
  simp only [Act.put, List.getElem_toArray, List.getElem_cons_succ, List.getElem_cons_zero, List.setIfInBounds_toArray, List.set_cons_zero, List.set_cons_succ]
  (refine wpAnyH_take (i := 17) (v := ?hv11) rfl (by kernel_rfl) (by kernel_rfl) (by kernel_rfl) (fun _ _ _ h => h) (Or.inl ⟨by kernel_rfl, ?hy11⟩) hHeld ?hr11; case hy11 => (intro w hSw; (try dsimp only at hSw); go_simp; try with_reducible rfl))
  simp only [Act.put, List.getElem_toArray, List.getElem_cons_succ, List.getElem_cons_zero, List.setIfInBounds_toArray, List.set_cons_zero, List.set_cons_succ]
  (refine wpAnyH_take (i := 18) (v := ?hv12) rfl (by kernel_rfl) (by kernel_rfl) (by kernel_rfl) (fun _ _ _ h => h) (Or.inl ⟨by kernel_rfl, ?hy12⟩) hHeld ?hr12; case hy12 => (intro w hSw; (try dsimp only at hSw); have k0 := (hSw.cell (p := ⟨W.heap.size, 4, none⟩) HP.out.lt).trans (HP.out.at_ 4 rfl); clear hSw; go_simp; try with_reducible rfl))
  simp only [Act.put, List.getElem_toArray, List.getElem_cons_succ, List.getElem_cons_zero, List.setIfInBounds_toArray, List.set_cons_zero, List.set_cons_succ]
  (refine wpAnyH_take (i := 21) (v := ?hv13) rfl (by kernel_rfl) (by kernel_rfl) (by kernel_rfl) (fun _ _ _ h => h) (Or.inl ⟨by kernel_rfl, ?hy13⟩) hHeld ?hr13; case hy13 => (intro w hSw; (try dsimp only at hSw); go_simp; try with_reducible rfl))
  simp only [Act.put, List.getElem_toArray, List.getElem_cons_succ, List.getElem_cons_zero, List.setIfInBounds_toArray, List.set_cons_zero, List.set_cons_succ]
  (refine wpAnyH_take (i := 22) (v := ?hv14) rfl (by kernel_rfl) (by kernel_rfl) (by kernel_rfl) (fun _ _ _ h => h) (Or.inl ⟨by kernel_rfl, ?hy14⟩) hHeld ?hr14; case hy14 => (intro w hSw; (try dsimp only at hSw); have k0 := (hSw.cell (p := ⟨W.heap.size, 5, none⟩) HP.out.lt).trans (HP.out.at_ 5 rfl); clear hSw; go_simp; try with_reducible rfl))
  simp only [Act.put, List.getElem_toArray, List.getElem_cons_succ, List.getElem_cons_zero, List.setIfInBounds_toArray, List.set_cons_zero, List.set_cons_succ]
  refine wpAnyH_ready (rs := [2]) (by kernel_rfl) (by simp) ?_
  refine AllReadyH.cons rfl (fun K hK => ?_) AllReadyH.nil
  go_simp
  go_at_call 99
  refine (put_s x0 G0.out r0 _).mono ?_
  rintro e v ⟨rfl, hb⟩
  refine hK.out _ _ (hHeld.trans (hb.mono hHeld.size)) (fun hHeld => ?_)
  clear hK K hb
  try simp only [Act.put, List.getElem_toArray, List.getElem_cons_succ, List.getElem_cons_zero, List.setIfInBounds_toArray, List.set_cons_zero, List.set_cons_succ]
  refine wpAnyH_ready (rs := [6]) (by kernel_rfl) (by simp) ?_
  refine AllReadyH.cons rfl (fun K hK => ?_) AllReadyH.nil
  go_simp
  go_at_call 99
  refine (put_s x1 G1.out r1 _).mono ?_
  rintro e v ⟨rfl, hb⟩
  refine hK.out _ _ (hHeld.trans (hb.mono hHeld.size)) (fun hHeld => ?_)
  clear hK K hb
  try simp only [Act.put, List.getElem_toArray, List.getElem_cons_succ, List.getElem_cons_zero, List.setIfInBounds_toArray, List.set_cons_zero, List.set_cons_succ]
  (refine wpAnyH_take (i := 7) (v := ?hv15) rfl (by kernel_rfl) (by kernel_rfl) (by kernel_rfl) (fun _ _ _ h => h) (Or.inl ⟨by kernel_rfl, ?hy15⟩) hHeld ?hr15; case hy15 => (intro w hSw; (try dsimp only at hSw); go_simp; try with_reducible rfl))
  simp only [Act.put, List.getElem_toArray, List.getElem_cons_succ, List.getElem_cons_zero, List.setIfInBounds_toArray, List.set_cons_zero, List.set_cons_succ]
  refine wpAnyH_ready (rs := [11]) (by kernel_rfl) (by simp) ?_
  refine AllReadyH.cons rfl (fun K hK => ?_) AllReadyH.nil
  go_simp
  go_at_call 99
  refine (put_s x2 G2.out r2 _).mono ?_
  rintro e v ⟨rfl, hb⟩
  refine hK.out _ _ (hHeld.trans (hb.mono hHeld.size)) (fun hHeld => ?_)
  clear hK K hb
  try simp only [Act.put, List.getElem_toArray, List.getElem_cons_succ, List.getElem_cons_zero, List.setIfInBounds_toArray, List.set_cons_zero, List.set_cons_succ]
  (refine wpAnyH_take (i := 12) (v := ?hv16) rfl (by kernel_rfl) (by kernel_rfl) (by kernel_rfl) (fun _ _ _ h => h) (Or.inl ⟨by kernel_rfl, ?hy16⟩) hHeld ?hr16; case hy16 => (intro w hSw; (try dsimp only at hSw); go_simp; try with_reducible rfl))
  simp only [Act.put, List.getElem_toArray, List.getElem_cons_succ, List.getElem_cons_zero, List.setIfInBounds_toArray, List.set_cons_zero, List.set_cons_succ]
  refine wpAnyH_ready (rs := [15]) (by kernel_rfl) (by simp) ?_
  refine AllReadyH.cons rfl (fun K hK => ?_) AllReadyH.nil
  go_simp
  go_at_call 99
  refine (put_s x3 G3.out r3 _).mono ?_
  rintro e v ⟨rfl, hb⟩
  refine hK.out _ _ (hHeld.trans (hb.mono hHeld.size)) (fun hHeld => ?_)
  clear hK K hb
  try simp only [Act.put, List.getElem_toArray, List.getElem_cons_succ, List.getElem_cons_zero, List.setIfInBounds_toArray, List.set_cons_zero, List.set_cons_succ]
  (refine wpAnyH_take (i := 16) (v := ?hv17) rfl (by kernel_rfl) (by kernel_rfl) (by kernel_rfl) (fun _ _ _ h => h) (Or.inl ⟨by kernel_rfl, ?hy17⟩) hHeld ?hr17; case hy17 => (intro w hSw; (try dsimp only at hSw); go_simp; try with_reducible rfl))
  simp only [Act.put, List.getElem_toArray, List.getElem_cons_succ, List.getElem_cons_zero, List.setIfInBounds_toArray, List.set_cons_zero, List.set_cons_succ]
  refine wpAnyH_ready (rs := [19]) (by kernel_rfl) (by simp) ?_
  refine AllReadyH.cons rfl (fun K hK => ?_) AllReadyH.nil
  go_simp
  go_at_call 99
  refine (put_s x4 G4.out r4 _).mono ?_
  rintro e v ⟨rfl, hb⟩
  refine hK.out _ _ (hHeld.trans (hb.mono hHeld.size)) (fun hHeld => ?_)
  clear hK K hb
  try simp only [Act.put, List.getElem_toArray, List.getElem_cons_succ, List.getElem_cons_zero, List.setIfInBounds_toArray, List.set_cons_zero, List.set_cons_succ]
  (refine wpAnyH_take (i := 20) (v := ?hv18) rfl (by kernel_rfl) (by kernel_rfl) (by kernel_rfl) (fun _ _ _ h => h) (Or.inl ⟨by kernel_rfl, ?hy18⟩) hHeld ?hr18; case hy18 => (intro w hSw; (try dsimp only at hSw); go_simp; try with_reducible rfl))
  simp only [Act.put, List.getElem_toArray, List.getElem_cons_succ, List.getElem_cons_zero, List.setIfInBounds_toArray, List.set_cons_zero, List.set_cons_succ]
  refine wpAnyH_ready (rs := [23]) (by kernel_rfl) (by simp) ?_
  refine AllReadyH.cons rfl (fun K hK => ?_) AllReadyH.nil
  go_simp
  go_at_call 99
  refine (put_s x5 G5.out r5 _).mono ?_
  rintro e v ⟨rfl, hb⟩
  refine hK.out _ _ (hHeld.trans (hb.mono hHeld.size)) (fun hHeld => ?_)
  clear hK K hb
  try simp only [Act.put, List.getElem_toArray, List.getElem_cons_succ, List.getElem_cons_zero, List.setIfInBounds_toArray, List.set_cons_zero, List.set_cons_succ]
  (refine wpAnyH_take (i := 24) (v := ?hv19) rfl (by kernel_rfl) (by kernel_rfl) (by kernel_rfl) (fun _ _ _ h => h) (Or.inl ⟨by kernel_rfl, ?hy19⟩) hHeld ?hr19; case hy19 => (intro w hSw; (try dsimp only at hSw); go_simp; try with_reducible rfl))
  simp only [Act.put, List.getElem_toArray, List.getElem_cons_succ, List.getElem_cons_zero, List.setIfInBounds_toArray, List.set_cons_zero, List.set_cons_succ]
  refine wpAnyH_ready (rs := [25]) (by kernel_rfl) (by simp) ?_
  refine AllReadyH.cons rfl (fun K hK => ?_) AllReadyH.nil
  go_simp
  go_at_call 98
  refine (seal_s HU.out (by omega) _).mono ?_
  rintro e v ⟨rfl, hb⟩
  refine hK.out _ _ (hHeld.trans (hb.mono hHeld.size)) (fun hHeld => ?_)
  clear hK K hb
  try simp only [Act.put, List.getElem_toArray, List.getElem_cons_succ, List.getElem_cons_zero, List.setIfInBounds_toArray, List.set_cons_zero, List.set_cons_succ]
  (refine wpAnyH_take (i := 26) (v := ?hv20) rfl (by kernel_rfl) (by kernel_rfl) (by kernel_rfl) (fun _ _ _ h => h) (Or.inl ⟨by kernel_rfl, ?hy20⟩) hHeld ?hr20; case hy20 => (intro w hSw; (try dsimp only at hSw); go_simp; try with_reducible rfl))
  simp only [Act.put, List.getElem_toArray, List.getElem_cons_succ, List.getElem_cons_zero, List.setIfInBounds_toArray, List.set_cons_zero, List.set_cons_succ]
  refine wpAnyH_done (by kernel_rfl) ?_ _
  have HF := Lib.hid hHeld
  clear hHeld
  go_wp2
  go_ret
  exact ⟨rfl, HB.out.trans (HF.out.mono HB.out.size)⟩

set_option maxRecDepth 100000 in
set_option maxHeartbeats 1600000 in
theorem bytes_spec (x0 x1 x2 x3 x4 x5 : Int) (W : World) :
    Calls Tryd.prog 44 #[.agg #[.int .i64 x0, .int .i64 x1, .int .i64 x2, .int .i64 x3, .int .i64 x4, .int .i64 x5]] W fun e w' => e = .returned (.string (bytesE x0 x1 x2 x3 x4 x5)) ∧ Below W.heap.size W w' := by
  have HP0 := Lib.hid (Blk.new W 25 #[.int .i64 x0, .int .i64 x1, .int .i64 x2, .int .i64 x3, .int .i64 x4, .int .i64 x5])
  have HB0 := Lib.hid (show Below W.heap.size W (W.alloc (.cells #[.int .i64 x0, .int .i64 x1, .int .i64 x2, .int .i64 x3, .int .i64 x4, .int .i64 x5] 25)) from (Below.refl _ _).alloc (Nat.le_refl _) _)
  obtain ⟨q, hq⟩ : ∃ q, entB x0 x1 x2 x3 x4 x5 = q := ⟨_, rfl⟩
  have HQ := Lib.hid hq
  clear hq
  have p0 := HP0.out.at_ 0 rfl
  have p1 := HP0.out.at_ 1 rfl
  have p2 := HP0.out.at_ 2 rfl
  have p3 := HP0.out.at_ 3 rfl
  have p4 := HP0.out.at_ 4 rfl
  have p5 := HP0.out.at_ 5 rfl
  go_enter Tryd.func44, Tryd.ntmps44
  go_wp2_with fail
  refine (entright_spec x0 x1 x2 x3 x4 x5 _).mono ?_
  rintro e w1 ⟨rfl, hb⟩
  rw [HQ.out]
  have HP1 := Lib.hid (HP0.out.call hb)
  have HB1 := Lib.hid (HB0.out.trans (hb.mono HB0.out.size))
  clear hb HP0 HB0 p0 p1 p2 p3 p4 p5
  have p0 := HP1.out.at_ 0 rfl
  have p1 := HP1.out.at_ 1 rfl
  have p2 := HP1.out.at_ 2 rfl
  have p3 := HP1.out.at_ 3 rfl
  have p4 := HP1.out.at_ 4 rfl
  have p5 := HP1.out.at_ 5 rfl
  cases q with
  | false =>
    have HR := Lib.hid (bytes_no HQ.out)
    go_wp2
    go_ret
    exact ⟨by rw [HR.out]; rfl, HB1.out⟩
  | true =>
    have HR := Lib.hid (bytes_yes HQ.out)
    go_wp2_with fail
    refine (l07_spec x0 x1 x2 x3 x4 x5 HQ.out _).mono ?_
    rintro e w2 ⟨rfl, hb⟩
    rw [← HR.out]
    have HB2 := Lib.hid (HB1.out.trans (hb.mono HB1.out.size))
    clear hb p0 p1 p2 p3 p4 p5
    go_wp2
    go_ret
    exact ⟨rfl, HB2.out⟩
end Go.Proofs.YtdimpopkkjpddaaDoor.EnC
