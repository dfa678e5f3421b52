/- EntryBytes, in the program and in its model: contracts. -/
import Derived.Test.YtdimpopkkjpddaaEnR
import Derived.Test.YtdimpopkkjpddaaSeal
import Derived.Test.YtdimpopkkjpddaaBld
namespace Go.Proofs.Ytdimpopkkjpddaa.EnC
open Go.RowKit KeptC LabC RepC
set_option linter.unusedVariables false
set_option linter.unusedSimpArgs false

def cat6 (x0 x1 x2 x3 x4 x5 : Int) : ByteArray := PutM.encB x0 ++ PutM.encB x1 ++ PutM.encB x2 ++ PutM.encB x3 ++ PutM.encB x4 ++ PutM.encB x5
def bytesE (x0 x1 x2 x3 x4 x5 : Int) : ByteArray := if entB x0 x1 x2 x3 x4 x5 = true then SealC.sealOf (cat6 x0 x1 x2 x3 x4 x5) else { data := #[] }
theorem bytes_yes {x0 x1 x2 x3 x4 x5 : Int} (h : entB x0 x1 x2 x3 x4 x5 = true) : bytesE x0 x1 x2 x3 x4 x5 = SealC.sealOf (cat6 x0 x1 x2 x3 x4 x5) := if_pos h
theorem bytes_no {x0 x1 x2 x3 x4 x5 : Int} (h : entB x0 x1 x2 x3 x4 x5 = false) : bytesE x0 x1 x2 x3 x4 x5 = { data := #[] } := if_neg (by simp [h])
theorem ent_range {x0 x1 x2 x3 x4 x5 : Int} (h : entB x0 x1 x2 x3 x4 x5 = true) : (0 ≤ x0 ∧ x0 ≤ 100) ∧ (0 ≤ x1 ∧ x1 ≤ 100) ∧ (0 ≤ x2 ∧ x2 ≤ 100) ∧ (0 ≤ x3 ∧ x3 ≤ 100) ∧ (0 ≤ x4 ∧ x4 ≤ 100) ∧ (0 ≤ x5 ∧ x5 ≤ 100) := by
  simp only [entB, rB, LabC.isB, kindB, Bool.and_eq_true, Bool.or_eq_true, decide_eq_true_eq, beq_iff_eq] at h
  omega
theorem enc_small {n : Int} (h : 0 ≤ n ∧ n ≤ 100) : (PutM.encB n).size ≤ 10 := by
  have := PutM.enc_len64 (PutM.foldN_lt (n := n) (by omega) (by omega))
  have e : (PutM.encB n).size = (PutM.enc (PutM.foldN n)).length := by simp [PutM.encB, PutM.bytesOf, ByteArray.size]
  omega
theorem put_s (n : Int) {b : ByteArray} (hb : PutM.encB n = b) (h : 0 ≤ n ∧ n ≤ 100) (w : World) : Calls Try.prog 63 #[.int .i64 n] w fun e w' => e = .returned (.string b) ∧ Below w.heap.size w w' := by
  subst hb
  exact PutC.put_spec n w (by omega) (by omega)
theorem put_i (n : Int) {b : ByteArray} (hb : PutM.encB n = b) (h : 0 ≤ n ∧ n ≤ 100) (w : World) : Calls Try.prog 34 #[.int .i64 n] w fun e w' => e = .returned (.string b) ∧ Below w.heap.size w w' := by
  subst hb
  exact PutC.put_impl n w (by omega) (by omega)
theorem seal_s {s u : ByteArray} (h : SealC.sealOf s = u) (hs : s.size ≤ 60) (w : World) : Calls Try.prog 62 #[.string s] w fun e w' => e = .returned (.string u) ∧ Below w.heap.size w w' := by
  subst h
  exact SealC.seal_spec s w (by unfold maxLen; omega)
theorem seal_i {s u : ByteArray} (h : SealC.sealOf s = u) (hs : s.size ≤ 60) (w : World) : Calls Try.prog 35 #[.string s] w fun e w' => e = .returned (.string u) ∧ Below w.heap.size w w' := by
  subst h
  exact SealC.seal_impl s w (by unfold maxLen; omega)

set_option maxRecDepth 100000 in
set_option maxHeartbeats 1600000 in
theorem l07_spec (x0 x1 x2 x3 x4 x5 : Int) (hE : entB x0 x1 x2 x3 x4 x5 = true) (W : World) :
    Calls Try.prog 32 #[.agg #[.int .i64 x0, .int .i64 x1, .int .i64 x2, .int .i64 x3, .int .i64 x4, .int .i64 x5]] W fun e w' => e = .returned (.string (SealC.sealOf (cat6 x0 x1 x2 x3 x4 x5))) ∧ Below W.heap.size W w' := by
  obtain ⟨b0, g0⟩ : ∃ b, PutM.encB x0 = b := ⟨_, rfl⟩
  obtain ⟨b1, g1⟩ : ∃ b, PutM.encB x1 = b := ⟨_, rfl⟩
  obtain ⟨b2, g2⟩ : ∃ b, PutM.encB x2 = b := ⟨_, rfl⟩
  obtain ⟨b3, g3⟩ : ∃ b, PutM.encB x3 = b := ⟨_, rfl⟩
  obtain ⟨b4, g4⟩ : ∃ b, PutM.encB x4 = b := ⟨_, rfl⟩
  obtain ⟨b5, g5⟩ : ∃ b, PutM.encB x5 = b := ⟨_, rfl⟩
  obtain ⟨r0, r1, r2, r3, r4, r5⟩ := ent_range hE
  have s0 := enc_small r0
  rw [g0] at s0
  have s1 := enc_small r1
  rw [g1] at s1
  have s2 := enc_small r2
  rw [g2] at s2
  have s3 := enc_small r3
  rw [g3] at s3
  have s4 := enc_small r4
  rw [g4] at s4
  have s5 := enc_small r5
  rw [g5] at s5
  obtain ⟨u, hu⟩ : ∃ u, SealC.sealOf (cat6 x0 x1 x2 x3 x4 x5) = u := ⟨_, rfl⟩
  have HU0 := Lib.hid hu
  rw [hu]
  unfold cat6 at hu
  rw [g0, g1, g2, g3, g4, g5] at hu
  have G0 := Lib.hid g0
  have G1 := Lib.hid g1
  have G2 := Lib.hid g2
  have G3 := Lib.hid g3
  have G4 := Lib.hid g4
  have G5 := Lib.hid g5
  have HU := Lib.hid hu
  clear g0 g1 g2 g3 g4 g5 hu hE
  have z0 := s0
  have z1 : (b0 ++ b1).size ≤ 20 := by rw [ByteArray.size_append]; omega
  have hadd1 := fun w : World => run_string_add_sum (P := Try.prog) w b0 b1 (by omega)
  have z2 : ((b0 ++ b1) ++ b2).size ≤ 30 := by rw [ByteArray.size_append]; omega
  have hadd2 := fun w : World => run_string_add_sum (P := Try.prog) w (b0 ++ b1) b2 (by omega)
  have z3 : (((b0 ++ b1) ++ b2) ++ b3).size ≤ 40 := by rw [ByteArray.size_append]; omega
  have hadd3 := fun w : World => run_string_add_sum (P := Try.prog) w ((b0 ++ b1) ++ b2) b3 (by omega)
  have z4 : ((((b0 ++ b1) ++ b2) ++ b3) ++ b4).size ≤ 50 := by rw [ByteArray.size_append]; omega
  have hadd4 := fun w : World => run_string_add_sum (P := Try.prog) w (((b0 ++ b1) ++ b2) ++ b3) b4 (by omega)
  have z5 : (((((b0 ++ b1) ++ b2) ++ b3) ++ b4) ++ b5).size ≤ 60 := by rw [ByteArray.size_append]; omega
  have hadd5 := fun w : World => run_string_add_sum (P := Try.prog) w ((((b0 ++ b1) ++ b2) ++ b3) ++ b4) b5 (by omega)
  obtain ⟨Wv, hV⟩ : ∃ V, V = W.alloc (.cells #[.int .i64 x0, .int .i64 x1, .int .i64 x2, .int .i64 x3, .int .i64 x4, .int .i64 x5] 29) := ⟨_, rfl⟩
  have HP := Lib.hid (show Blk Wv W.heap.size 29 #[.int .i64 x0, .int .i64 x1, .int .i64 x2, .int .i64 x3, .int .i64 x4, .int .i64 x5] from by rw [hV]; exact Blk.new _ _ _)
  have HB := Lib.hid (show Below W.heap.size W Wv from by rw [hV]; exact (Below.refl _ _).alloc (Nat.le_refl _) _)
  go_enter Try.func32, Try.ntmps32
  go_upto_region 1 with fail
  rw [← hV]
  clear hV
  refine wp_region_held_drew (S := (fun V => Below (Wv).heap.size (Wv) V)) (by kernel_rfl) ((Below.refl _ _).drew) (fun hHeld => ?_)
  (refine wpAnyH_take (i := 0) (v := ?hv1) rfl (by kernel_rfl) (by kernel_rfl) (by kernel_rfl) (fun _ _ _ h => h) (Or.inl ⟨by kernel_rfl, ?hy1⟩) hHeld ?hr1; case hy1 => (intro w hSw; (try dsimp only at hSw); go_simp; try with_reducible rfl))
  simp only [Act.put, List.getElem_toArray, List.getElem_cons_succ, List.getElem_cons_zero, List.setIfInBounds_toArray, List.set_cons_zero, List.set_cons_succ]
  (refine wpAnyH_take (i := 1) (v := ?hv2) rfl (by kernel_rfl) (by kernel_rfl) (by kernel_rfl) (fun _ _ _ h => h) (Or.inl ⟨by kernel_rfl, ?hy2⟩) hHeld ?hr2; case hy2 => (intro w hSw; (try dsimp only at hSw); have k0 := (hSw.cell (p := ⟨W.heap.size, 0, none⟩) HP.out.lt).trans (HP.out.at_ 0 rfl); clear hSw; go_simp; try with_reducible rfl))
  simp only [Act.put, List.getElem_toArray, List.getElem_cons_succ, List.getElem_cons_zero, List.setIfInBounds_toArray, List.set_cons_zero, List.set_cons_succ]
  (refine wpAnyH_take (i := 3) (v := ?hv3) rfl (by kernel_rfl) (by kernel_rfl) (by kernel_rfl) (fun _ _ _ h => h) (Or.inl ⟨by kernel_rfl, ?hy3⟩) hHeld ?hr3; case hy3 => (intro w hSw; (try dsimp only at hSw); go_simp; try with_reducible rfl))
  simp only [Act.put, List.getElem_toArray, List.getElem_cons_succ, List.getElem_cons_zero, List.setIfInBounds_toArray, List.set_cons_zero, List.set_cons_succ]
  (refine wpAnyH_take (i := 4) (v := ?hv4) rfl (by kernel_rfl) (by kernel_rfl) (by kernel_rfl) (fun _ _ _ h => h) (Or.inl ⟨by kernel_rfl, ?hy4⟩) hHeld ?hr4; case hy4 => (intro w hSw; (try dsimp only at hSw); go_simp; try with_reducible rfl))
  simp only [Act.put, List.getElem_toArray, List.getElem_cons_succ, List.getElem_cons_zero, List.setIfInBounds_toArray, List.set_cons_zero, List.set_cons_succ]
  (refine wpAnyH_take (i := 5) (v := ?hv5) rfl (by kernel_rfl) (by kernel_rfl) (by kernel_rfl) (fun _ _ _ h => h) (Or.inl ⟨by kernel_rfl, ?hy5⟩) hHeld ?hr5; case hy5 => (intro w hSw; (try dsimp only at hSw); have k0 := (hSw.cell (p := ⟨W.heap.size, 1, none⟩) HP.out.lt).trans (HP.out.at_ 1 rfl); clear hSw; go_simp; try with_reducible rfl))
  simp only [Act.put, List.getElem_toArray, List.getElem_cons_succ, List.getElem_cons_zero, List.setIfInBounds_toArray, List.set_cons_zero, List.set_cons_succ]
  (refine wpAnyH_take (i := 8) (v := ?hv6) rfl (by kernel_rfl) (by kernel_rfl) (by kernel_rfl) (fun _ _ _ h => h) (Or.inl ⟨by kernel_rfl, ?hy6⟩) hHeld ?hr6; case hy6 => (intro w hSw; (try dsimp only at hSw); go_simp; try with_reducible rfl))
  simp only [Act.put, List.getElem_toArray, List.getElem_cons_succ, List.getElem_cons_zero, List.setIfInBounds_toArray, List.set_cons_zero, List.set_cons_succ]
  (refine wpAnyH_take (i := 9) (v := ?hv7) rfl (by kernel_rfl) (by kernel_rfl) (by kernel_rfl) (fun _ _ _ h => h) (Or.inl ⟨by kernel_rfl, ?hy7⟩) hHeld ?hr7; case hy7 => (intro w hSw; (try dsimp only at hSw); go_simp; try with_reducible rfl))
  simp only [Act.put, List.getElem_toArray, List.getElem_cons_succ, List.getElem_cons_zero, List.setIfInBounds_toArray, List.set_cons_zero, List.set_cons_succ]
  (refine wpAnyH_take (i := 10) (v := ?hv8) rfl (by kernel_rfl) (by kernel_rfl) (by kernel_rfl) (fun _ _ _ h => h) (Or.inl ⟨by kernel_rfl, ?hy8⟩) hHeld ?hr8; case hy8 => (intro w hSw; (try dsimp only at hSw); have k0 := (hSw.cell (p := ⟨W.heap.size, 2, none⟩) HP.out.lt).trans (HP.out.at_ 2 rfl); clear hSw; go_simp; try with_reducible rfl))
  simp only [Act.put, List.getElem_toArray, List.getElem_cons_succ, List.getElem_cons_zero, List.setIfInBounds_toArray, List.set_cons_zero, List.set_cons_succ]
  (refine wpAnyH_take (i := 13) (v := ?hv9) rfl (by kernel_rfl) (by kernel_rfl) (by kernel_rfl) (fun _ _ _ h => h) (Or.inl ⟨by kernel_rfl, ?hy9⟩) hHeld ?hr9; case hy9 => (intro w hSw; (try dsimp only at hSw); go_simp; try with_reducible rfl))
  simp only [Act.put, List.getElem_toArray, List.getElem_cons_succ, List.getElem_cons_zero, List.setIfInBounds_toArray, List.set_cons_zero, List.set_cons_succ]
  (refine wpAnyH_take (i := 14) (v := ?hv10) rfl (by kernel_rfl) (by kernel_rfl) (by kernel_rfl) (fun _ _ _ h => h) (Or.inl ⟨by kernel_rfl, ?hy10⟩) hHeld ?hr10; case hy10 => (intro w hSw; (try dsimp only at hSw); have k0 := (hSw.cell (p := ⟨W.heap.size, 3, none⟩) HP.out.lt).trans (HP.out.at_ 3 rfl); clear hSw; go_simp; try with_reducible rfl))
  simp only [Act.put, List.getElem_toArray, List.getElem_cons_succ, List.getElem_cons_zero, List.setIfInBounds_toArray, List.set_cons_zero, List.set_cons_succ]
  (refine wpAnyH_take (i := 17) (v := ?hv11) rfl (by kernel_rfl) (by kernel_rfl) (by kernel_rfl) (fun _ _ _ h => h) (Or.inl ⟨by kernel_rfl, ?hy11⟩) hHeld ?hr11; case hy11 => (intro w hSw; (try dsimp only at hSw); go_simp; try with_reducible rfl))
  simp only [Act.put, List.getElem_toArray, List.getElem_cons_succ, List.getElem_cons_zero, List.setIfInBounds_toArray, List.set_cons_zero, List.set_cons_succ]
  (refine wpAnyH_take (i := 18) (v := ?hv12) rfl (by kernel_rfl) (by kernel_rfl) (by kernel_rfl) (fun _ _ _ h => h) (Or.inl ⟨by kernel_rfl, ?hy12⟩) hHeld ?hr12; case hy12 => (intro w hSw; (try dsimp only at hSw); have k0 := (hSw.cell (p := ⟨W.heap.size, 4, none⟩) HP.out.lt).trans (HP.out.at_ 4 rfl); clear hSw; go_simp; try with_reducible rfl))
  simp only [Act.put, List.getElem_toArray, List.getElem_cons_succ, List.getElem_cons_zero, List.setIfInBounds_toArray, List.set_cons_zero, List.set_cons_succ]
  (refine wpAnyH_take (i := 21) (v := ?hv13) rfl (by kernel_rfl) (by kernel_rfl) (by kernel_rfl) (fun _ _ _ h => h) (Or.inl ⟨by kernel_rfl, ?hy13⟩) hHeld ?hr13; case hy13 => (intro w hSw; (try dsimp only at hSw); go_simp; try with_reducible rfl))
  simp only [Act.put, List.getElem_toArray, List.getElem_cons_succ, List.getElem_cons_zero, List.setIfInBounds_toArray, List.set_cons_zero, List.set_cons_succ]
  (refine wpAnyH_take (i := 22) (v := ?hv14) rfl (by kernel_rfl) (by kernel_rfl) (by kernel_rfl) (fun _ _ _ h => h) (Or.inl ⟨by kernel_rfl, ?hy14⟩) hHeld ?hr14; case hy14 => (intro w hSw; (try dsimp only at hSw); have k0 := (hSw.cell (p := ⟨W.heap.size, 5, none⟩) HP.out.lt).trans (HP.out.at_ 5 rfl); clear hSw; go_simp; try with_reducible rfl))
  simp only [Act.put, List.getElem_toArray, List.getElem_cons_succ, List.getElem_cons_zero, List.setIfInBounds_toArray, List.set_cons_zero, List.set_cons_succ]
  refine wpAnyH_ready (rs := [2]) (by kernel_rfl) (by simp) ?_
  refine AllReadyH.cons rfl (fun K hK => ?_) AllReadyH.nil
  go_simp
  go_at_call 63
  refine (put_s x0 G0.out r0 _).mono ?_
  rintro e v ⟨rfl, hb⟩
  refine hK.out _ _ (hHeld.trans (hb.mono hHeld.size)) (fun hHeld => ?_)
  clear hK K hb
  try simp only [Act.put, List.getElem_toArray, List.getElem_cons_succ, List.getElem_cons_zero, List.setIfInBounds_toArray, List.set_cons_zero, List.set_cons_succ]
  refine wpAnyH_ready (rs := [6]) (by kernel_rfl) (by simp) ?_
  refine AllReadyH.cons rfl (fun K hK => ?_) AllReadyH.nil
  go_simp
  go_at_call 63
  refine (put_s x1 G1.out r1 _).mono ?_
  rintro e v ⟨rfl, hb⟩
  refine hK.out _ _ (hHeld.trans (hb.mono hHeld.size)) (fun hHeld => ?_)
  clear hK K hb
  try simp only [Act.put, List.getElem_toArray, List.getElem_cons_succ, List.getElem_cons_zero, List.setIfInBounds_toArray, List.set_cons_zero, List.set_cons_succ]
  (refine wpAnyH_take (i := 7) (v := ?hv15) rfl (by kernel_rfl) (by kernel_rfl) (by kernel_rfl) (fun _ _ _ h => h) (Or.inl ⟨by kernel_rfl, ?hy15⟩) hHeld ?hr15; case hy15 => (intro w hSw; (try dsimp only at hSw); go_simp; try with_reducible rfl))
  simp only [Act.put, List.getElem_toArray, List.getElem_cons_succ, List.getElem_cons_zero, List.setIfInBounds_toArray, List.set_cons_zero, List.set_cons_succ]
  refine wpAnyH_ready (rs := [11]) (by kernel_rfl) (by simp) ?_
  refine AllReadyH.cons rfl (fun K hK => ?_) AllReadyH.nil
  go_simp
  go_at_call 63
  refine (put_s x2 G2.out r2 _).mono ?_
  rintro e v ⟨rfl, hb⟩
  refine hK.out _ _ (hHeld.trans (hb.mono hHeld.size)) (fun hHeld => ?_)
  clear hK K hb
  try simp only [Act.put, List.getElem_toArray, List.getElem_cons_succ, List.getElem_cons_zero, List.setIfInBounds_toArray, List.set_cons_zero, List.set_cons_succ]
  (refine wpAnyH_take (i := 12) (v := ?hv16) rfl (by kernel_rfl) (by kernel_rfl) (by kernel_rfl) (fun _ _ _ h => h) (Or.inl ⟨by kernel_rfl, ?hy16⟩) hHeld ?hr16; case hy16 => (intro w hSw; (try dsimp only at hSw); go_simp; try with_reducible rfl))
  simp only [Act.put, List.getElem_toArray, List.getElem_cons_succ, List.getElem_cons_zero, List.setIfInBounds_toArray, List.set_cons_zero, List.set_cons_succ]
  refine wpAnyH_ready (rs := [15]) (by kernel_rfl) (by simp) ?_
  refine AllReadyH.cons rfl (fun K hK => ?_) AllReadyH.nil
  go_simp
  go_at_call 63
  refine (put_s x3 G3.out r3 _).mono ?_
  rintro e v ⟨rfl, hb⟩
  refine hK.out _ _ (hHeld.trans (hb.mono hHeld.size)) (fun hHeld => ?_)
  clear hK K hb
  try simp only [Act.put, List.getElem_toArray, List.getElem_cons_succ, List.getElem_cons_zero, List.setIfInBounds_toArray, List.set_cons_zero, List.set_cons_succ]
  (refine wpAnyH_take (i := 16) (v := ?hv17) rfl (by kernel_rfl) (by kernel_rfl) (by kernel_rfl) (fun _ _ _ h => h) (Or.inl ⟨by kernel_rfl, ?hy17⟩) hHeld ?hr17; case hy17 => (intro w hSw; (try dsimp only at hSw); go_simp; try with_reducible rfl))
  simp only [Act.put, List.getElem_toArray, List.getElem_cons_succ, List.getElem_cons_zero, List.setIfInBounds_toArray, List.set_cons_zero, List.set_cons_succ]
  refine wpAnyH_ready (rs := [19]) (by kernel_rfl) (by simp) ?_
  refine AllReadyH.cons rfl (fun K hK => ?_) AllReadyH.nil
  go_simp
  go_at_call 63
  refine (put_s x4 G4.out r4 _).mono ?_
  rintro e v ⟨rfl, hb⟩
  refine hK.out _ _ (hHeld.trans (hb.mono hHeld.size)) (fun hHeld => ?_)
  clear hK K hb
  try simp only [Act.put, List.getElem_toArray, List.getElem_cons_succ, List.getElem_cons_zero, List.setIfInBounds_toArray, List.set_cons_zero, List.set_cons_succ]
  (refine wpAnyH_take (i := 20) (v := ?hv18) rfl (by kernel_rfl) (by kernel_rfl) (by kernel_rfl) (fun _ _ _ h => h) (Or.inl ⟨by kernel_rfl, ?hy18⟩) hHeld ?hr18; case hy18 => (intro w hSw; (try dsimp only at hSw); go_simp; try with_reducible rfl))
  simp only [Act.put, List.getElem_toArray, List.getElem_cons_succ, List.getElem_cons_zero, List.setIfInBounds_toArray, List.set_cons_zero, List.set_cons_succ]
  refine wpAnyH_ready (rs := [23]) (by kernel_rfl) (by simp) ?_
  refine AllReadyH.cons rfl (fun K hK => ?_) AllReadyH.nil
  go_simp
  go_at_call 63
  refine (put_s x5 G5.out r5 _).mono ?_
  rintro e v ⟨rfl, hb⟩
  refine hK.out _ _ (hHeld.trans (hb.mono hHeld.size)) (fun hHeld => ?_)
  clear hK K hb
  try simp only [Act.put, List.getElem_toArray, List.getElem_cons_succ, List.getElem_cons_zero, List.setIfInBounds_toArray, List.set_cons_zero, List.set_cons_succ]
  (refine wpAnyH_take (i := 24) (v := ?hv19) rfl (by kernel_rfl) (by kernel_rfl) (by kernel_rfl) (fun _ _ _ h => h) (Or.inl ⟨by kernel_rfl, ?hy19⟩) hHeld ?hr19; case hy19 => (intro w hSw; (try dsimp only at hSw); go_simp; try with_reducible rfl))
  simp only [Act.put, List.getElem_toArray, List.getElem_cons_succ, List.getElem_cons_zero, List.setIfInBounds_toArray, List.set_cons_zero, List.set_cons_succ]
  refine wpAnyH_ready (rs := [25]) (by kernel_rfl) (by simp) ?_
  refine AllReadyH.cons rfl (fun K hK => ?_) AllReadyH.nil
  go_simp
  go_at_call 62
  refine (seal_s HU.out (by omega) _).mono ?_
  rintro e v ⟨rfl, hb⟩
  refine hK.out _ _ (hHeld.trans (hb.mono hHeld.size)) (fun hHeld => ?_)
  clear hK K hb
  try simp only [Act.put, List.getElem_toArray, List.getElem_cons_succ, List.getElem_cons_zero, List.setIfInBounds_toArray, List.set_cons_zero, List.set_cons_succ]
  (refine wpAnyH_take (i := 26) (v := ?hv20) rfl (by kernel_rfl) (by kernel_rfl) (by kernel_rfl) (fun _ _ _ h => h) (Or.inl ⟨by kernel_rfl, ?hy20⟩) hHeld ?hr20; case hy20 => (intro w hSw; (try dsimp only at hSw); go_simp; try with_reducible rfl))
  simp only [Act.put, List.getElem_toArray, List.getElem_cons_succ, List.getElem_cons_zero, List.setIfInBounds_toArray, List.set_cons_zero, List.set_cons_succ]
  refine wpAnyH_done (by kernel_rfl) ?_ _
  have HF := Lib.hid hHeld
  clear hHeld
  go_wp2
  go_ret
  exact ⟨rfl, HB.out.trans (HF.out.mono HB.out.size)⟩

set_option maxRecDepth 100000 in
set_option maxHeartbeats 1600000 in
theorem bytes_spec (x0 x1 x2 x3 x4 x5 : Int) (W : World) :
    Calls Try.prog 9 #[.agg #[.int .i64 x0, .int .i64 x1, .int .i64 x2, .int .i64 x3, .int .i64 x4, .int .i64 x5]] W fun e w' => e = .returned (.string (bytesE x0 x1 x2 x3 x4 x5)) ∧ Below W.heap.size W w' := by
  have HP0 := Lib.hid (Blk.new W 29 #[.int .i64 x0, .int .i64 x1, .int .i64 x2, .int .i64 x3, .int .i64 x4, .int .i64 x5])
  have HB0 := Lib.hid (show Below W.heap.size W (W.alloc (.cells #[.int .i64 x0, .int .i64 x1, .int .i64 x2, .int .i64 x3, .int .i64 x4, .int .i64 x5] 29)) from (Below.refl _ _).alloc (Nat.le_refl _) _)
  obtain ⟨q, hq⟩ : ∃ q, entB x0 x1 x2 x3 x4 x5 = q := ⟨_, rfl⟩
  have HQ := Lib.hid hq
  clear hq
  have p0 := HP0.out.at_ 0 rfl
  have p1 := HP0.out.at_ 1 rfl
  have p2 := HP0.out.at_ 2 rfl
  have p3 := HP0.out.at_ 3 rfl
  have p4 := HP0.out.at_ 4 rfl
  have p5 := HP0.out.at_ 5 rfl
  go_enter Try.func9, Try.ntmps9
  go_wp2_with fail
  refine (entright_spec x0 x1 x2 x3 x4 x5 _).mono ?_
  rintro e w1 ⟨rfl, hb⟩
  rw [HQ.out]
  have HP1 := Lib.hid (HP0.out.call hb)
  have HB1 := Lib.hid (HB0.out.trans (hb.mono HB0.out.size))
  clear hb HP0 HB0 p0 p1 p2 p3 p4 p5
  have p0 := HP1.out.at_ 0 rfl
  have p1 := HP1.out.at_ 1 rfl
  have p2 := HP1.out.at_ 2 rfl
  have p3 := HP1.out.at_ 3 rfl
  have p4 := HP1.out.at_ 4 rfl
  have p5 := HP1.out.at_ 5 rfl
  cases q with
  | false =>
    have HR := Lib.hid (bytes_no HQ.out)
    go_wp2
    go_ret
    exact ⟨by rw [HR.out]; rfl, HB1.out⟩
  | true =>
    have HR := Lib.hid (bytes_yes HQ.out)
    go_wp2_with fail
    refine (l07_spec x0 x1 x2 x3 x4 x5 HQ.out _).mono ?_
    rintro e w2 ⟨rfl, hb⟩
    rw [← HR.out]
    have HB2 := Lib.hid (HB1.out.trans (hb.mono HB1.out.size))
    clear hb p0 p1 p2 p3 p4 p5
    go_wp2
    go_ret
    exact ⟨rfl, HB2.out⟩

theorem idx0 (x0 x1 x2 x3 x4 x5 : Int) (w : World) : (Instr.index 59 (.agg #[.int .i64 x0, .int .i64 x1, .int .i64 x2, .int .i64 x3, .int .i64 x4, .int .i64 x5]) (.int .i64 0)).run Try.prog w = .ok (.int .i64 x0) w := by kernel_rfl
theorem idx1 (x0 x1 x2 x3 x4 x5 : Int) (w : World) : (Instr.index 59 (.agg #[.int .i64 x0, .int .i64 x1, .int .i64 x2, .int .i64 x3, .int .i64 x4, .int .i64 x5]) (.int .i64 1)).run Try.prog w = .ok (.int .i64 x1) w := by kernel_rfl
theorem idx2 (x0 x1 x2 x3 x4 x5 : Int) (w : World) : (Instr.index 59 (.agg #[.int .i64 x0, .int .i64 x1, .int .i64 x2, .int .i64 x3, .int .i64 x4, .int .i64 x5]) (.int .i64 2)).run Try.prog w = .ok (.int .i64 x2) w := by kernel_rfl
theorem idx3 (x0 x1 x2 x3 x4 x5 : Int) (w : World) : (Instr.index 59 (.agg #[.int .i64 x0, .int .i64 x1, .int .i64 x2, .int .i64 x3, .int .i64 x4, .int .i64 x5]) (.int .i64 3)).run Try.prog w = .ok (.int .i64 x3) w := by kernel_rfl
theorem idx4 (x0 x1 x2 x3 x4 x5 : Int) (w : World) : (Instr.index 59 (.agg #[.int .i64 x0, .int .i64 x1, .int .i64 x2, .int .i64 x3, .int .i64 x4, .int .i64 x5]) (.int .i64 4)).run Try.prog w = .ok (.int .i64 x4) w := by kernel_rfl
theorem idx5 (x0 x1 x2 x3 x4 x5 : Int) (w : World) : (Instr.index 59 (.agg #[.int .i64 x0, .int .i64 x1, .int .i64 x2, .int .i64 x3, .int .i64 x4, .int .i64 x5]) (.int .i64 5)).run Try.prog w = .ok (.int .i64 x5) w := by kernel_rfl
def pre6 (b0 b1 b2 b3 b4 b5 : ByteArray) : Nat → List Value
  | 0 => []
  | 1 => [] ++ Lib.strCells b0
  | 2 => [] ++ Lib.strCells b0 ++ Lib.strCells b1
  | 3 => [] ++ Lib.strCells b0 ++ Lib.strCells b1 ++ Lib.strCells b2
  | 4 => [] ++ Lib.strCells b0 ++ Lib.strCells b1 ++ Lib.strCells b2 ++ Lib.strCells b3
  | 5 => [] ++ Lib.strCells b0 ++ Lib.strCells b1 ++ Lib.strCells b2 ++ Lib.strCells b3 ++ Lib.strCells b4
  | _ => [] ++ Lib.strCells b0 ++ Lib.strCells b1 ++ Lib.strCells b2 ++ Lib.strCells b3 ++ Lib.strCells b4 ++ Lib.strCells b5
theorem pre6_all (b0 b1 b2 b3 b4 b5 : ByteArray) : pre6 b0 b1 b2 b3 b4 b5 6 = Lib.strCells (b0 ++ b1 ++ b2 ++ b3 ++ b4 ++ b5) := by
  show [] ++ Lib.strCells b0 ++ Lib.strCells b1 ++ Lib.strCells b2 ++ Lib.strCells b3 ++ Lib.strCells b4 ++ Lib.strCells b5 = _
  rw [List.nil_append, BldC.cells_cat, BldC.cells_cat, BldC.cells_cat, BldC.cells_cat, BldC.cells_cat]
theorem pre6_len {b0 b1 b2 b3 b4 b5 : ByteArray} (h0 : b0.size ≤ 10) (h1 : b1.size ≤ 10) (h2 : b2.size ≤ 10) (h3 : b3.size ≤ 10) (h4 : b4.size ≤ 10) (h5 : b5.size ≤ 10) (k : Nat) : (pre6 b0 b1 b2 b3 b4 b5 k).length ≤ 60 := by
  unfold pre6
  split <;> simp only [List.length_append, List.length_nil, Lib.strCells_length] <;> omega
set_option maxRecDepth 100000 in
set_option maxHeartbeats 1600000 in
theorem bytes_impl (x0 x1 x2 x3 x4 x5 : Int) (W : World) :
    Calls Try.prog 10 #[.agg #[.int .i64 x0, .int .i64 x1, .int .i64 x2, .int .i64 x3, .int .i64 x4, .int .i64 x5]] W fun e w' => e = .returned (.string (bytesE x0 x1 x2 x3 x4 x5)) ∧ Below W.heap.size W w' := by
  have HP0 := Lib.hid (Blk.new W 29 #[.int .i64 x0, .int .i64 x1, .int .i64 x2, .int .i64 x3, .int .i64 x4, .int .i64 x5])
  have HB0 := Lib.hid (show Below W.heap.size W (W.alloc (.cells #[.int .i64 x0, .int .i64 x1, .int .i64 x2, .int .i64 x3, .int .i64 x4, .int .i64 x5] 29)) from (Below.refl _ _).alloc (Nat.le_refl _) _)
  obtain ⟨q, hq⟩ : ∃ q, entB x0 x1 x2 x3 x4 x5 = q := ⟨_, rfl⟩
  have HQ := Lib.hid hq
  clear hq
  have p0 := HP0.out.at_ 0 rfl
  have p1 := HP0.out.at_ 1 rfl
  have p2 := HP0.out.at_ 2 rfl
  have p3 := HP0.out.at_ 3 rfl
  have p4 := HP0.out.at_ 4 rfl
  have p5 := HP0.out.at_ 5 rfl
  go_enter Try.func10, Try.ntmps10
  go_wp2_with fail
  refine (entright_impl x0 x1 x2 x3 x4 x5 _).mono ?_
  rintro e w1 ⟨rfl, hb⟩
  rw [HQ.out]
  have HP1 := Lib.hid (HP0.out.call hb)
  have HB1 := Lib.hid (HB0.out.trans (hb.mono HB0.out.size))
  clear hb HP0 HB0 p0 p1 p2 p3 p4 p5
  cases q with
  | false =>
    have HR := Lib.hid (bytes_no HQ.out)
    have p0 := HP1.out.at_ 0 rfl
    have p1 := HP1.out.at_ 1 rfl
    have p2 := HP1.out.at_ 2 rfl
    have p3 := HP1.out.at_ 3 rfl
    have p4 := HP1.out.at_ 4 rfl
    have p5 := HP1.out.at_ 5 rfl
    go_wp2
    go_ret
    exact ⟨by rw [HR.out]; rfl, HB1.out⟩
  | true =>
    have hE := HQ.out
    have HR := Lib.hid (bytes_yes HQ.out)
    obtain ⟨b0, g0⟩ : ∃ b, PutM.encB x0 = b := ⟨_, rfl⟩
    obtain ⟨b1, g1⟩ : ∃ b, PutM.encB x1 = b := ⟨_, rfl⟩
    obtain ⟨b2, g2⟩ : ∃ b, PutM.encB x2 = b := ⟨_, rfl⟩
    obtain ⟨b3, g3⟩ : ∃ b, PutM.encB x3 = b := ⟨_, rfl⟩
    obtain ⟨b4, g4⟩ : ∃ b, PutM.encB x4 = b := ⟨_, rfl⟩
    obtain ⟨b5, g5⟩ : ∃ b, PutM.encB x5 = b := ⟨_, rfl⟩
    obtain ⟨r0, r1, r2, r3, r4, r5⟩ := ent_range hE
    have s0 := enc_small r0
    rw [g0] at s0
    have s1 := enc_small r1
    rw [g1] at s1
    have s2 := enc_small r2
    rw [g2] at s2
    have s3 := enc_small r3
    rw [g3] at s3
    have s4 := enc_small r4
    rw [g4] at s4
    have s5 := enc_small r5
    rw [g5] at s5
    obtain ⟨u, hu⟩ : ∃ u, SealC.sealOf (cat6 x0 x1 x2 x3 x4 x5) = u := ⟨_, rfl⟩
    have HU0 := Lib.hid hu
    unfold cat6 at hu
    rw [g0, g1, g2, g3, g4, g5] at hu
    have G0 := Lib.hid g0
    have G1 := Lib.hid g1
    have G2 := Lib.hid g2
    have G3 := Lib.hid g3
    have G4 := Lib.hid g4
    have G5 := Lib.hid g5
    have HU := Lib.hid hu
    clear g0 g1 g2 g3 g4 g5 hu hE
    have z0 := s0
    have z1 : (b0 ++ b1).size ≤ 20 := by rw [ByteArray.size_append]; omega
    have hadd1 := fun w : World => run_string_add_sum (P := Try.prog) w b0 b1 (by omega)
    have z2 : ((b0 ++ b1) ++ b2).size ≤ 30 := by rw [ByteArray.size_append]; omega
    have hadd2 := fun w : World => run_string_add_sum (P := Try.prog) w (b0 ++ b1) b2 (by omega)
    have z3 : (((b0 ++ b1) ++ b2) ++ b3).size ≤ 40 := by rw [ByteArray.size_append]; omega
    have hadd3 := fun w : World => run_string_add_sum (P := Try.prog) w ((b0 ++ b1) ++ b2) b3 (by omega)
    have z4 : ((((b0 ++ b1) ++ b2) ++ b3) ++ b4).size ≤ 50 := by rw [ByteArray.size_append]; omega
    have hadd4 := fun w : World => run_string_add_sum (P := Try.prog) w (((b0 ++ b1) ++ b2) ++ b3) b4 (by omega)
    have z5 : (((((b0 ++ b1) ++ b2) ++ b3) ++ b4) ++ b5).size ≤ 60 := by rw [ByteArray.size_append]; omega
    have hadd5 := fun w : World => run_string_add_sum (P := Try.prog) w ((((b0 ++ b1) ++ b2) ++ b3) ++ b4) b5 (by omega)
    obtain ⟨V, hV⟩ : ∃ V, V = w1.alloc (.cells #[.pointer none, .slice none 0 0] 58) := ⟨_, rfl⟩
    have hbV : Below w1.heap.size w1 V := by rw [hV]; exact (Below.refl _ _).alloc (Nat.le_refl _) _
    have HP2 := Lib.hid (HP1.out.call hbV)
    have HB2 := Lib.hid (HB1.out.trans (hbV.mono HB1.out.size))
    have HI : Hid (Lib.IsBuilder 58 5 w1.heap.size w1.heap.size [] V) := Lib.hid (by rw [hV]; exact (Lib.fresh_isBuilder 58 5 w1))
    have hz2 := hbV.size
    obtain ⟨g, hg⟩ : ∃ g, g = w1.heap.size := ⟨_, rfl⟩
    have hg1 : W.heap.size ≤ g := by rw [hg]; exact HB1.out.size
    have p0 := HP2.out.at_ 0 rfl
    have p1 := HP2.out.at_ 1 rfl
    have p2 := HP2.out.at_ 2 rfl
    have p3 := HP2.out.at_ 3 rfl
    have p4 := HP2.out.at_ 4 rfl
    have p5 := HP2.out.at_ 5 rfl
    have p0' := p0
    rw [hV] at p0'
    have p1' := p1
    rw [hV] at p1'
    have p2' := p2
    rw [hV] at p2'
    have p3' := p3
    rw [hV] at p3'
    have p4' := p4
    rw [hV] at p4'
    have p5' := p5
    rw [hV] at p5'
    go_wp2_with fail
    rw [← hV]
    clear hV p0 p0' p1 p1' p2 p2' p3 p3' p4 p4' p5 p5'
    go_loopw [24] (fun i wr => ∃ k : Nat, k ≤ 6 ∧ i = .int .i64 k ∧ Hid (Lib.IsBuilder 58 5 w1.heap.size w1.heap.size (pre6 b0 b1 b2 b3 b4 b5 k) wr) ∧ Hid (Below w1.heap.size w1 wr)) (fun i _ => 6 - (intOf i).toNat)
    case atStart => exact ⟨0, by omega, rfl, HI, Lib.hid hbV⟩
    case round =>
      obtain ⟨k, hk, rfl, HI, HWR⟩ := hrel
      have hzr : w1.heap.size ≤ wr.heap.size := HWR.out.size
      by_cases hlt : k < 6
      · have h06 : k = 0 ∨ k = 1 ∨ k = 2 ∨ k = 3 ∨ k = 4 ∨ k = 5 := by omega
        clear hlt hk
        rcases h06 with rfl | rfl | rfl | rfl | rfl | rfl
        · have hix := idx0 x0 x1 x2 x3 x4 x5
          go_wp2_with fail
          refine (put_i x0 G0.out r0 _).mono ?_
          rintro e w2 ⟨rfl, hb⟩
          have HI2 := Lib.hid (BldC.is_below HI.out hb)
          have HW2 := Lib.hid (HWR.out.trans (hb.mono hzr))
          have hz2' : w1.heap.size ≤ w2.heap.size := HW2.out.size
          clear hb
          go_wp2_with fail
          refine (BldC.write_any w1.heap.size w1.heap.size _ b0 _ HI2.out (by have := pre6_len s0 s1 s2 s3 s4 s5 0; omega) hz2').mono ?_
          rintro e w3 ⟨rfl, h3, hb⟩
          have HI3 := Lib.hid (show Lib.IsBuilder 58 5 w1.heap.size w1.heap.size (pre6 b0 b1 b2 b3 b4 b5 1) w3 from Or.inr h3)
          have HW3 := Lib.hid (HW2.out.trans hb)
          clear hb h3
          go_wp2
          go_roundw
          case rel => exact ⟨1, by omega, by go_num, HI3, HW3⟩
          case measure => simp [intOf]
        · have hix := idx1 x0 x1 x2 x3 x4 x5
          go_wp2_with fail
          refine (put_i x1 G1.out r1 _).mono ?_
          rintro e w2 ⟨rfl, hb⟩
          have HI2 := Lib.hid (BldC.is_below HI.out hb)
          have HW2 := Lib.hid (HWR.out.trans (hb.mono hzr))
          have hz2' : w1.heap.size ≤ w2.heap.size := HW2.out.size
          clear hb
          go_wp2_with fail
          refine (BldC.write_any w1.heap.size w1.heap.size _ b1 _ HI2.out (by have := pre6_len s0 s1 s2 s3 s4 s5 1; omega) hz2').mono ?_
          rintro e w3 ⟨rfl, h3, hb⟩
          have HI3 := Lib.hid (show Lib.IsBuilder 58 5 w1.heap.size w1.heap.size (pre6 b0 b1 b2 b3 b4 b5 2) w3 from Or.inr h3)
          have HW3 := Lib.hid (HW2.out.trans hb)
          clear hb h3
          go_wp2
          go_roundw
          case rel => exact ⟨2, by omega, by go_num, HI3, HW3⟩
          case measure => simp [intOf]
        · have hix := idx2 x0 x1 x2 x3 x4 x5
          go_wp2_with fail
          refine (put_i x2 G2.out r2 _).mono ?_
          rintro e w2 ⟨rfl, hb⟩
          have HI2 := Lib.hid (BldC.is_below HI.out hb)
          have HW2 := Lib.hid (HWR.out.trans (hb.mono hzr))
          have hz2' : w1.heap.size ≤ w2.heap.size := HW2.out.size
          clear hb
          go_wp2_with fail
          refine (BldC.write_any w1.heap.size w1.heap.size _ b2 _ HI2.out (by have := pre6_len s0 s1 s2 s3 s4 s5 2; omega) hz2').mono ?_
          rintro e w3 ⟨rfl, h3, hb⟩
          have HI3 := Lib.hid (show Lib.IsBuilder 58 5 w1.heap.size w1.heap.size (pre6 b0 b1 b2 b3 b4 b5 3) w3 from Or.inr h3)
          have HW3 := Lib.hid (HW2.out.trans hb)
          clear hb h3
          go_wp2
          go_roundw
          case rel => exact ⟨3, by omega, by go_num, HI3, HW3⟩
          case measure => simp [intOf]
        · have hix := idx3 x0 x1 x2 x3 x4 x5
          go_wp2_with fail
          refine (put_i x3 G3.out r3 _).mono ?_
          rintro e w2 ⟨rfl, hb⟩
          have HI2 := Lib.hid (BldC.is_below HI.out hb)
          have HW2 := Lib.hid (HWR.out.trans (hb.mono hzr))
          have hz2' : w1.heap.size ≤ w2.heap.size := HW2.out.size
          clear hb
          go_wp2_with fail
          refine (BldC.write_any w1.heap.size w1.heap.size _ b3 _ HI2.out (by have := pre6_len s0 s1 s2 s3 s4 s5 3; omega) hz2').mono ?_
          rintro e w3 ⟨rfl, h3, hb⟩
          have HI3 := Lib.hid (show Lib.IsBuilder 58 5 w1.heap.size w1.heap.size (pre6 b0 b1 b2 b3 b4 b5 4) w3 from Or.inr h3)
          have HW3 := Lib.hid (HW2.out.trans hb)
          clear hb h3
          go_wp2
          go_roundw
          case rel => exact ⟨4, by omega, by go_num, HI3, HW3⟩
          case measure => simp [intOf]
        · have hix := idx4 x0 x1 x2 x3 x4 x5
          go_wp2_with fail
          refine (put_i x4 G4.out r4 _).mono ?_
          rintro e w2 ⟨rfl, hb⟩
          have HI2 := Lib.hid (BldC.is_below HI.out hb)
          have HW2 := Lib.hid (HWR.out.trans (hb.mono hzr))
          have hz2' : w1.heap.size ≤ w2.heap.size := HW2.out.size
          clear hb
          go_wp2_with fail
          refine (BldC.write_any w1.heap.size w1.heap.size _ b4 _ HI2.out (by have := pre6_len s0 s1 s2 s3 s4 s5 4; omega) hz2').mono ?_
          rintro e w3 ⟨rfl, h3, hb⟩
          have HI3 := Lib.hid (show Lib.IsBuilder 58 5 w1.heap.size w1.heap.size (pre6 b0 b1 b2 b3 b4 b5 5) w3 from Or.inr h3)
          have HW3 := Lib.hid (HW2.out.trans hb)
          clear hb h3
          go_wp2
          go_roundw
          case rel => exact ⟨5, by omega, by go_num, HI3, HW3⟩
          case measure => simp [intOf]
        · have hix := idx5 x0 x1 x2 x3 x4 x5
          go_wp2_with fail
          refine (put_i x5 G5.out r5 _).mono ?_
          rintro e w2 ⟨rfl, hb⟩
          have HI2 := Lib.hid (BldC.is_below HI.out hb)
          have HW2 := Lib.hid (HWR.out.trans (hb.mono hzr))
          have hz2' : w1.heap.size ≤ w2.heap.size := HW2.out.size
          clear hb
          go_wp2_with fail
          refine (BldC.write_any w1.heap.size w1.heap.size _ b5 _ HI2.out (by have := pre6_len s0 s1 s2 s3 s4 s5 5; omega) hz2').mono ?_
          rintro e w3 ⟨rfl, h3, hb⟩
          have HI3 := Lib.hid (show Lib.IsBuilder 58 5 w1.heap.size w1.heap.size (pre6 b0 b1 b2 b3 b4 b5 6) w3 from Or.inr h3)
          have HW3 := Lib.hid (HW2.out.trans hb)
          clear hb h3
          go_wp2
          go_roundw
          case rel => exact ⟨6, by omega, by go_num, HI3, HW3⟩
          case measure => simp [intOf]
      · obtain rfl : k = 6 := by omega
        clear hlt hk
        have HI6 := Lib.hid (show Lib.IsBuilder 58 5 w1.heap.size w1.heap.size (Lib.strCells (b0 ++ b1 ++ b2 ++ b3 ++ b4 ++ b5)) wr from by rw [← pre6_all]; exact HI.out)
        go_wp2_with fail
        refine (BldC.str_any w1.heap.size w1.heap.size _ _ HI6.out hzr).mono ?_
        rintro e w2 ⟨rfl, hb⟩
        have HW2 := Lib.hid (HWR.out.trans hb)
        clear hb
        go_wp2_with fail
        refine (seal_i HU.out (by omega) _).mono ?_
        rintro e w3 ⟨rfl, hb⟩
        have HW3 := Lib.hid (HW2.out.trans (hb.mono HW2.out.size))
        clear hb
        go_wp2
        go_ret
        exact ⟨by rw [HR.out, HU0.out]; rfl, HB1.out.trans (HW3.out.mono HB1.out.size)⟩
end Go.Proofs.Ytdimpopkkjpddaa.EnC
