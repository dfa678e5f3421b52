/- Of this claim's texts the part 5: CfX3 CfGv CfGText CfW6 Tables LabDoor. -/
import Derived.Test.YtdghcjlgmajffaaDoorRows
import Derived.ProofKit
import Derived.OpenShut
import Derived.LaidMore
import Derived.LaidByTextLater
import Derived.Stop.Joined
import Derived.ChangeSame
import Derived.JoinedOf
import Derived.Test.YtdghcjlgmajffaaDoorPT4
section
namespace Go.Proofs.YtdghcjlgmajffaaDoor.RepC
open Go.RowKit RowC ValC SpanC KeptC CfC
set_option linter.unusedVariables false
set_option linter.unusedSimpArgs false
theorem rd_twoL {w : World} {g : Nat} (x0 x1 x2 x3 : Int) (h : Blk w g 44 #[.int .i64 x0, .int .i64 x1, .int .i64 x2, .int .i64 x3]) : RdSl R_Label w w.heap.size [(x0, x1), (x2, x3)] (some ⟨g, 0, none⟩) 2 := by
  refine ⟨Nat.le_refl _, by unfold maxLen; omega, fun _ => ⟨g, 0, rfl, h.lt, fun i x hx => ?_⟩⟩
  match i, hx with
  | 0, hx =>
    simp at hx
    subst hx
    exact ⟨[.int .i64 x0, .int .i64 x1], CellsAt.cons.2 ⟨by simpa using h.at_ 0 rfl, CellsAt.cons.2 ⟨by simpa using h.at_ 1 rfl, CellsAt.nil⟩⟩, mkrd_Label⟩
  | 1, hx =>
    simp at hx
    subst hx
    exact ⟨[.int .i64 x2, .int .i64 x3], CellsAt.cons.2 ⟨by simpa [show R_Label.size = 2 from rfl] using h.at_ 2 rfl, CellsAt.cons.2 ⟨by simpa [show R_Label.size = 2 from rfl] using h.at_ 3 rfl, CellsAt.nil⟩⟩, mkrd_Label⟩
  | i + 2, hx => simp at hx
theorem rd_noneL {α : Type} {E : Rp α} (w : World) (B : Nat) : RdSl E w B [] none 0 := ⟨Nat.le_refl _, by unfold maxLen; omega, fun h => absurd h (Nat.lt_irrefl _)⟩
theorem bld_len {s : ByteArray} {n : Nat} (h : s.size ≤ n) : (Lib.strCells s).length ≤ n := by rw [Lib.strCells_length]; exact h
set_option maxRecDepth 100000 in
set_option maxHeartbeats 2000000 in
theorem ctext_impl {C : List (List D_Label)} {P : List D_Pair} {Q : List D_Quota} {hf : Int} {ca pa qa : Option Addr} {cc pc qc : Nat} {W : World} (hC : RdSl (Sl R_Label) W W.heap.size C ca cc) (hP : RdSl R_Pair W W.heap.size P pa pc) (hQ : RdSl R_Quota W W.heap.size Q qa qc) (hD : LabC.Door W) :
    Calls Tryd.prog 7 #[.agg #[.slice ca C.length cc, .slice pa P.length pc, .slice qa Q.length qc, .int .i64 hf]] W fun e w' => e = .returned (.string (textC C P Q hf)) ∧ Below W.heap.size W w' := by
  obtain ⟨M, hM⟩ : ∃ M, textC C P Q hf = M := ⟨_, rfl⟩
  have HM := Lib.hid hM
  rw [hM]
  clear hM
  have hcn : C.length ≤ 9223372036854775807 := by have h1 := hC.1; have h2 := hC.2.1; unfold maxLen at h2; omega
  have hpn : P.length ≤ 9223372036854775807 := by have h1 := hP.1; have h2 := hP.2.1; unfold maxLen at h2; omega
  have hqn : Q.length ≤ 9223372036854775807 := by have h1 := hQ.1; have h2 := hQ.2.1; unfold maxLen at h2; omega
  obtain ⟨z, hz⟩ : ∃ z, cfgB C P Q hf = z := ⟨_, rfl⟩
  have HZ := Lib.hid hz
  clear hz
  have HD := Lib.hid hD
  have hD0 := hD.lt
  clear hD
  obtain ⟨w0, hw0⟩ : ∃ w, w = W.alloc (.cells #[.slice ca C.length cc, .slice pa P.length pc, .slice qa Q.length qc, .int .i64 hf] 33) := ⟨_, rfl⟩
  have hb0 : Below W.heap.size W w0 := by rw [hw0]; exact (Below.refl _ _).alloc (Nat.le_refl _) _
  have x0 : Blk w0 (W.heap.size) 33 #[.slice ca C.length cc, .slice pa P.length pc, .slice qa Q.length qc, .int .i64 hf] := by
    have h9 := Blk.new W 33 #[.slice ca C.length cc, .slice pa P.length pc, .slice qa Q.length qc, .int .i64 hf]
    try simp only [World.size_alloc] at h9
    rw [hw0]; exact h9
  have X0 := Lib.hid x0
  have HC := Lib.hid (rd_mv (Sl_ok R_Label_ok) hC hb0)
  have HP := Lib.hid (rd_mv R_Pair_ok hP hb0)
  have HQ := Lib.hid (rd_mv R_Quota_ok hQ hb0)
  have HB0 := Lib.hid hb0
  have hz0 := hb0.size
  clear hb0 hC hP hQ x0
  go_enter Tryd.func7, Tryd.ntmps7
  have p0 := X0.out.at_ 0 rfl
  have p1 := X0.out.at_ 1 rfl
  have p2 := X0.out.at_ 2 rfl
  have p3 := X0.out.at_ 3 rfl
  rw [hw0] at p0 p1 p2 p3
  go_wp2_with fail
  rw [← hw0]
  clear hw0 p0 p1 p2 p3
  have hcf := config_impl HC.out HP.out HQ.out (hf := hf)
  rw [HZ.out] at hcf
  refine hcf.mono ?_
  intro e v0 h
  obtain ⟨rfl, hb⟩ := isB_elim h
  have HB1 := Lib.hid (HB0.out.trans (hb.mono hz0))
  have X1 := Lib.hid (X0.out.call hb)
  have HC0 := Lib.hid (rd_mv (Sl_ok R_Label_ok) HC.out hb)
  have HP0 := Lib.hid (rd_mv R_Pair_ok HP.out hb)
  have HQ0 := Lib.hid (rd_mv R_Quota_ok HQ.out hb)
  have hz1 := HB1.out.size
  clear h hb hcf
  cases z with
  | false =>
    have HE := Lib.hid (show M = ⟨#[]⟩ from by rw [← HM.out]; unfold textC; rw [HZ.out]; rfl)
    obtain rfl := HE.out
    go_wp2
    go_ret
    exact ⟨rfl, HB1.out⟩
  | true =>
  have HE := Lib.hid (show M = cfgText C P Q hf from by rw [← HM.out]; unfold textC; rw [HZ.out]; rfl)
  have HCR := Lib.hid (cfgB_iff.1 HZ.out)
  have hc6 : C.length ≤ 6 := HCR.out.1.2.1
  have hp4 : P.length ≤ 4 := HCR.out.2.2.2.1.1
  have hq8 : Q.length ≤ 8 := by have h1 := quotas_len (labs_sorted C 32) HCR.out.2.2.2.2; have h2 := HCR.out.2.2.1; exact Nat.le_trans h1 h2
  have HX4 := Lib.hid (show ∀ (i : Nat) x, C[i]? = some x → x.length ≤ 4 from fun i x hx => (HCR.out.1.2.2 i x hx).2.1)
  have HR9 := Lib.hid (show ∀ (i : Nat) x, P[i]? = some x → 1 ≤ x.2.2 ∧ x.2.2 ≤ 9 from fun i x hx => by have := isB_io.1 (HCR.out.2.2.2.1.2 i x hx).2.2.2.1; omega)
  have HQ9 := Lib.hid (show ∀ (i : Nat) x, Q[i]? = some x → 1 ≤ x.2 ∧ x.2 ≤ 9 from fun i x hx => isB_io.1 (HCR.out.2.2.2.2 i x hx).2.1)
  have HH9 := Lib.hid (isB_io.1 HCR.out.2.1)
  obtain ⟨v1, hv1⟩ : ∃ w, w = v0.alloc (.cells #[.pointer none, .slice none 0 0] 56) := ⟨_, rfl⟩
  have hbV : Below v0.heap.size v0 v1 := by rw [hv1]; exact (Below.refl _ _).alloc (Nat.le_refl _) _
  have HI0 : Hid (Lib.IsBuilder 56 5 v0.heap.size v0.heap.size (Lib.strCells ⟨#[]⟩) v1) := Lib.hid (by rw [hv1]; exact (Lib.fresh_isBuilder 56 5 v0))
  have HBV := Lib.hid hbV
  have HDV := Lib.hid (HD.out.below HB1.out hD0)
  have hDV0 : 0 < v0.heap.size := by omega
  have hzV := hbV.size
  obtain ⟨B, hBe⟩ : ∃ B, B = v0.heap.size := ⟨_, rfl⟩
  have X2 := Lib.hid (X1.out.call hbV)
  have p0 := X2.out.at_ 0 rfl
  have p0' := p0
  rw [hv1] at p0'
  clear hbV
  go_wp2_with fail
  rw [← hv1]
  clear hv1 p0 p0'
  rw [← hBe] at HI0 hzV hDV0 ⊢
  have HBe := Lib.hid hBe
  have hBle : B ≤ v0.heap.size := Nat.le_of_eq hBe
  have HBV2 := Lib.hid (show Below B v0 v1 from by rw [hBe]; exact HBV.out)
  clear hBe
  go_loopw [16] (fun i wr => ∃ k : Nat, k ≤ C.length ∧ i = .int .i64 k ∧ Hid (Lib.IsBuilder 56 5 B B (Lib.strCells (joinB ((C.map nodeLn).take k))) wr) ∧ Below B v0 wr) (fun i _ => C.length - (intOf i).toNat)
  case atStart => exact ⟨0, Nat.zero_le _, rfl, HI0, HBV2.out⟩
  case round =>
    obtain ⟨k, hk, rfl, HI, hB⟩ := hrel
    have HB := Lib.hid hB
    have hB' : Below v0.heap.size v0 wr := by rw [← HBe.out]; exact hB
    have hsz := hB.size
    have hBw : B ≤ wr.heap.size := by omega
    have hTs := joinB_take_size (L := C.map nodeLn) k (nodes_mem HX4.out)
    have HTs := Lib.hid (bld_len (show (joinB ((C.map nodeLn).take k)).size ≤ 240 by omega))
    by_cases hlt : k < C.length
    · have hdl : decide ((k : Int) < (C.length : Int)) = true := decide_eq_true (by omega)
      obtain ⟨x, hx⟩ := el_some hlt
      have HX := Lib.hid hx
      have hx4 := HX4.out k x hx
      obtain ⟨g, o, us, hgo, hg, hu, hr⟩ := (rd_mv (Sl_ok R_Label_ok) HC0.out hB').at_ hx
      obtain ⟨a1, c1, rfl, k_x⟩ := hr
      subst hgo
      have e0 : wr.cell? ⟨g, o + k, none⟩ = some (.slice a1 x.length c1) := by simpa [size_SLab] using hu 0 _ rfl
      have hi0 : (0 : Int) ≤ (k : Int) := Int.natCast_nonneg _
      have hi1 : (k : Int) < (C.length : Int) := by omega
      have HK := Lib.hid k_x
      have HDr := Lib.hid (HDV.out.below hB' (by rw [← HBe.out]; exact hDV0))
      have HCat := Lib.hid (show joinB ((C.map nodeLn).take (k + 1)) = joinB ((C.map nodeLn).take k) ++ nodeLn x from joinB_take (by rw [List.getElem?_map, HX.out]; rfl))
      clear hB hB' hx hu k_x hg hTs
      go_wp2_with fail
      have hln := line_impl (b := (⟨#[110, 111, 100, 101]⟩ : ByteArray)) (N := []) (na := none) (nc := 0) HDr.out (by decide) hx4 (by simp) (fun n hn => by cases hn) HK.out (rd_noneL _ _)
      rw [show lnB (⟨#[110, 111, 100, 101]⟩ : ByteArray) x [] = nodeLn x from rfl] at hln
      refine hln.mono ?_
      rintro e w2 ⟨rfl, hb⟩
      have HI2 := Lib.hid (BldC.is_below HI.out hb)
      have HB2 := Lib.hid (HB.out.trans (hb.mono hBw))
      have hz2 := HB2.out.size
      have hls : (nodeLn x).size ≤ 40 := lnB_size (by decide) hx4 (by simp)
      obtain ⟨T, hT⟩ : ∃ T, nodeLn x = T := ⟨_, rfl⟩
      rw [hT] at hls HCat ⊢
      clear hb hln hT
      go_wp2_with fail
      refine (BldC.write_any B B _ T _ HI2.out (by have := HTs.out; omega) (by omega)).mono ?_
      rintro e w3 ⟨rfl, h3, hb⟩
      have HI3 := Lib.hid (show Lib.IsBuilder 56 5 B B (Lib.strCells (joinB ((C.map nodeLn).take (k + 1)))) w3 from Or.inr (by rw [HCat.out, ← BldC.cells_cat]; exact h3))
      have HB3 := Lib.hid (HB2.out.trans hb)
      clear h3 hb
      go_wp2
      go_roundw
      case rel => exact ⟨k + 1, by omega, by go_num, HI3, HB3.out⟩
      case measure => simp [intOf]; omega
    · have hdl : decide ((k : Int) < (C.length : Int)) = false := decide_eq_false (by omega)
      obtain ⟨S1, hS1⟩ : ∃ S, joinB (C.map nodeLn) = S := ⟨_, rfl⟩
      have HS1 := Lib.hid hS1
      have HI1 := Lib.hid (show Lib.IsBuilder 56 5 B B (Lib.strCells S1) wr from by have := HI.out; rw [List.take_of_length_le (by rw [List.length_map]; omega), hS1] at this; exact this)
      have hS1s : S1.size ≤ 240 := by rw [← hS1]; have := joinB_size (nodes_mem HX4.out); rw [List.length_map] at this; omega
      have X3 := Lib.hid (X1.out.call hB')
      have q1 := X3.out.at_ 1 rfl
      clear hB hB' hS1 hTs
      go_wp2
      go_loopw [27] (fun i wr => ∃ k : Nat, k ≤ P.length ∧ i = .int .i64 k ∧ Hid (Lib.IsBuilder 56 5 B B (Lib.strCells (S1 ++ joinB ((P.map pairLn).take k))) wr) ∧ Below B v0 wr) (fun i _ => P.length - (intOf i).toNat)
      case atStart => exact ⟨0, Nat.zero_le _, rfl, Lib.hid (by rw [joinB_zero, app_empty]; exact HI1.out), HB.out⟩
      case round =>
        clear q1
        obtain ⟨k, hk, rfl, HI, hB⟩ := hrel
        have HB := Lib.hid hB
        have hB' : Below v0.heap.size v0 wr := by rw [← HBe.out]; exact hB
        have hsz := hB.size
        have hBw : B ≤ wr.heap.size := by omega
        have hTs := joinB_take_size (L := P.map pairLn) k pairs_mem
        have HTs := Lib.hid (bld_len (show (S1 ++ joinB ((P.map pairLn).take k)).size ≤ 400 by rw [ByteArray.size_append]; omega))
        by_cases hlt : k < P.length
        · have hdl : decide ((k : Int) < (P.length : Int)) = true := decide_eq_true (by omega)
          obtain ⟨⟨⟨x0, x1⟩, ⟨x2, x3⟩, x4⟩, hx⟩ := el_some hlt
          have HX := Lib.hid hx
          obtain ⟨hr1, hr9⟩ := HR9.out k _ hx
          obtain ⟨g, o, us, hgo, hg, hu, hr⟩ := (rd_mv R_Pair_ok HP0.out hB').at_ hx
          subst hgo
          obtain rfl := rd_Pair hr
          have e0 : wr.cell? ⟨g, o + k * 5, none⟩ = some (.int .i64 x0) := by simpa [size_PairS, Nat.add_assoc] using hu 0 _ rfl
          have e1 : wr.cell? ⟨g, o + k * 5 + 1, none⟩ = some (.int .i64 x1) := by simpa [size_PairS, Nat.add_assoc] using hu 1 _ rfl
          have e2 : wr.cell? ⟨g, o + k * 5 + 2, none⟩ = some (.int .i64 x2) := by simpa [size_PairS, Nat.add_assoc] using hu 2 _ rfl
          have e3 : wr.cell? ⟨g, o + k * 5 + 3, none⟩ = some (.int .i64 x3) := by simpa [size_PairS, Nat.add_assoc] using hu 3 _ rfl
          have e4 : wr.cell? ⟨g, o + k * 5 + 4, none⟩ = some (.int .i64 x4) := by simpa [size_PairS, Nat.add_assoc] using hu 4 _ rfl
          have hi0 : (0 : Int) ≤ (k : Int) := Int.natCast_nonneg _
          have hi1 : (k : Int) < (P.length : Int) := by omega
          obtain ⟨w8, hw8⟩ : ∃ w, w = ((wr.alloc (.cells #[.int .i64 x0, .int .i64 x1, .int .i64 x2, .int .i64 x3, .int .i64 x4] 46)).alloc (.cells #[.int .i64 x0, .int .i64 x1, .int .i64 x2, .int .i64 x3] 44)).alloc (.cells #[.int .i64 x4] 2) := ⟨_, rfl⟩
          have hb8 : Below wr.heap.size wr w8 := by rw [hw8]; exact (((Below.refl _ _).alloc (Nat.le_refl _) _).alloc (by simp) _).alloc (by simp; omega) _
          have HL8 := Lib.hid (rd_twoL x0 x1 x2 x3 (show Blk w8 (wr.heap.size + 1) 44 #[.int .i64 x0, .int .i64 x1, .int .i64 x2, .int .i64 x3] from by
            have h9 := Blk.new (wr.alloc (.cells #[.int .i64 x0, .int .i64 x1, .int .i64 x2, .int .i64 x3, .int .i64 x4] 46)) 44 #[.int .i64 x0, .int .i64 x1, .int .i64 x2, .int .i64 x3]
            simp only [World.size_alloc] at h9
            rw [hw8]; exact h9.alloc _))
          have HN8 := Lib.hid (rd_oneI x4 (show Blk w8 (wr.heap.size + 1 + 1) 2 #[.int .i64 x4] from by
            have h9 := Blk.new ((wr.alloc (.cells #[.int .i64 x0, .int .i64 x1, .int .i64 x2, .int .i64 x3, .int .i64 x4] 46)).alloc (.cells #[.int .i64 x0, .int .i64 x1, .int .i64 x2, .int .i64 x3] 44)) 2 #[.int .i64 x4]
            simp only [World.size_alloc] at h9
            rw [hw8]; exact h9))
          have HD8 := Lib.hid (HDV.out.below (hB'.trans (hb8.mono (by omega))) (by rw [← HBe.out]; exact hDV0))
          have HI8 := Lib.hid (BldC.is_below HI.out hb8)
          have HB8 := Lib.hid (HB.out.trans (hb8.mono hBw))
          have hz8 := HB8.out.size
          have HCat := Lib.hid (show S1 ++ joinB ((P.map pairLn).take (k + 1)) = S1 ++ joinB ((P.map pairLn).take k) ++ pairLn ((x0, x1), (x2, x3), x4) from by rw [joinB_take (x := pairLn ((x0, x1), (x2, x3), x4)) (by rw [List.getElem?_map, HX.out]; rfl), ByteArray.append_assoc])
          clear hB hB' hx hu hr hg hb8 hTs
          go_wp2_with fail
          rw [← hw8]
          clear hw8 e0 e1 e2 e3 e4
          have hln := line_impl (b := (⟨#[112, 97, 105, 114]⟩ : ByteArray)) (L := [(x0, x1), (x2, x3)]) (N := [x4]) HD8.out (by decide) (by simp) (by simp) (fun n hn => by rw [List.mem_singleton] at hn; subst hn; omega) HL8.out HN8.out
          rw [show lnB (⟨#[112, 97, 105, 114]⟩ : ByteArray) [(x0, x1), (x2, x3)] [x4] = pairLn ((x0, x1), (x2, x3), x4) from rfl] at hln
          refine hln.mono ?_
          rintro e w2 ⟨rfl, hb⟩
          have HI2 := Lib.hid (BldC.is_below HI8.out hb)
          have HB2 := Lib.hid (HB8.out.trans (hb.mono (by omega)))
          have hz2 := HB2.out.size
          have hls : (pairLn ((x0, x1), (x2, x3), x4)).size ≤ 40 := lnB_size (by decide) (by simp) (by simp)
          obtain ⟨T, hT⟩ : ∃ T, pairLn ((x0, x1), (x2, x3), x4) = T := ⟨_, rfl⟩
          rw [hT] at hls HCat ⊢
          clear hb hln hT
          go_wp2_with fail
          refine (BldC.write_any B B _ T _ HI2.out (by have := HTs.out; omega) (by omega)).mono ?_
          rintro e w3 ⟨rfl, h3, hb⟩
          have HI3 := Lib.hid (show Lib.IsBuilder 56 5 B B (Lib.strCells (S1 ++ joinB ((P.map pairLn).take (k + 1)))) w3 from Or.inr (by rw [HCat.out, ← BldC.cells_cat]; exact h3))
          have HB3 := Lib.hid (HB2.out.trans hb)
          clear h3 hb
          go_wp2
          go_roundw
          case rel => exact ⟨k + 1, by omega, by go_num, HI3, HB3.out⟩
          case measure => simp [intOf]; omega
        · have hdl : decide ((k : Int) < (P.length : Int)) = false := decide_eq_false (by omega)
          obtain ⟨S2, hS2⟩ : ∃ S, S1 ++ joinB (P.map pairLn) = S := ⟨_, rfl⟩
          have HS2 := Lib.hid hS2
          have HI2 := Lib.hid (show Lib.IsBuilder 56 5 B B (Lib.strCells S2) wr from by have := HI.out; rw [List.take_of_length_le (by rw [List.length_map]; omega), hS2] at this; exact this)
          have hS2s : S2.size ≤ 400 := by rw [← hS2, ByteArray.size_append]; have := joinB_size (L := P.map pairLn) pairs_mem; rw [List.length_map] at this; omega
          have X4 := Lib.hid (X1.out.call hB')
          have q2 := X4.out.at_ 2 rfl
          clear hB hB' hS2 hTs
          go_wp2
          go_loopw [45] (fun i wr => ∃ k : Nat, k ≤ Q.length ∧ i = .int .i64 k ∧ Hid (Lib.IsBuilder 56 5 B B (Lib.strCells (S2 ++ joinB ((Q.map quotaLn).take k))) wr) ∧ Below B v0 wr) (fun i _ => Q.length - (intOf i).toNat)
          case atStart => exact ⟨0, Nat.zero_le _, rfl, Lib.hid (by rw [joinB_zero, app_empty]; exact HI2.out), HB.out⟩
          case round =>
            clear q2
            obtain ⟨k, hk, rfl, HI, hB⟩ := hrel
            have HB := Lib.hid hB
            have hB' : Below v0.heap.size v0 wr := by rw [← HBe.out]; exact hB
            have hsz := hB.size
            have hBw : B ≤ wr.heap.size := by omega
            have hTs := joinB_take_size (L := Q.map quotaLn) k quotas_mem
            have HTs := Lib.hid (bld_len (show (S2 ++ joinB ((Q.map quotaLn).take k)).size ≤ 720 by rw [ByteArray.size_append]; omega))
            by_cases hlt : k < Q.length
            · have hdl : decide ((k : Int) < (Q.length : Int)) = true := decide_eq_true (by omega)
              obtain ⟨⟨⟨x0, x1⟩, x2⟩, hx⟩ := el_some hlt
              have HX := Lib.hid hx
              obtain ⟨hr1, hr9⟩ := HQ9.out k _ hx
              obtain ⟨g, o, us, hgo, hg, hu, hr⟩ := (rd_mv R_Quota_ok HQ0.out hB').at_ hx
              subst hgo
              obtain rfl := rd_Quota hr
              have e0 : wr.cell? ⟨g, o + k * 3, none⟩ = some (.int .i64 x0) := by simpa [size_QuotaS, Nat.add_assoc] using hu 0 _ rfl
              have e1 : wr.cell? ⟨g, o + k * 3 + 1, none⟩ = some (.int .i64 x1) := by simpa [size_QuotaS, Nat.add_assoc] using hu 1 _ rfl
              have e2 : wr.cell? ⟨g, o + k * 3 + 2, none⟩ = some (.int .i64 x2) := by simpa [size_QuotaS, Nat.add_assoc] using hu 2 _ rfl
              have hi0 : (0 : Int) ≤ (k : Int) := Int.natCast_nonneg _
              have hi1 : (k : Int) < (Q.length : Int) := by omega
              obtain ⟨w8, hw8⟩ : ∃ w, w = ((wr.alloc (.cells #[.int .i64 x0, .int .i64 x1, .int .i64 x2] 49)).alloc (.cells #[.int .i64 x0, .int .i64 x1] 44)).alloc (.cells #[.int .i64 x2] 2) := ⟨_, rfl⟩
              have hb8 : Below wr.heap.size wr w8 := by rw [hw8]; exact (((Below.refl _ _).alloc (Nat.le_refl _) _).alloc (by simp) _).alloc (by simp; omega) _
              have HL8 := Lib.hid (rd_oneL x0 x1 (show Blk w8 (wr.heap.size + 1) 44 #[.int .i64 x0, .int .i64 x1] from by
                have h9 := Blk.new (wr.alloc (.cells #[.int .i64 x0, .int .i64 x1, .int .i64 x2] 49)) 44 #[.int .i64 x0, .int .i64 x1]
                simp only [World.size_alloc] at h9
                rw [hw8]; exact h9.alloc _))
              have HN8 := Lib.hid (rd_oneI x2 (show Blk w8 (wr.heap.size + 1 + 1) 2 #[.int .i64 x2] from by
                have h9 := Blk.new ((wr.alloc (.cells #[.int .i64 x0, .int .i64 x1, .int .i64 x2] 49)).alloc (.cells #[.int .i64 x0, .int .i64 x1] 44)) 2 #[.int .i64 x2]
                simp only [World.size_alloc] at h9
                rw [hw8]; exact h9))
              have HD8 := Lib.hid (HDV.out.below (hB'.trans (hb8.mono (by omega))) (by rw [← HBe.out]; exact hDV0))
              have HI8 := Lib.hid (BldC.is_below HI.out hb8)
              have HB8 := Lib.hid (HB.out.trans (hb8.mono hBw))
              have hz8 := HB8.out.size
              have HCat := Lib.hid (show S2 ++ joinB ((Q.map quotaLn).take (k + 1)) = S2 ++ joinB ((Q.map quotaLn).take k) ++ quotaLn ((x0, x1), x2) from by rw [joinB_take (x := quotaLn ((x0, x1), x2)) (by rw [List.getElem?_map, HX.out]; rfl), ByteArray.append_assoc])
              clear hB hB' hx hu hr hg hb8 hTs
              go_wp2_with fail
              rw [← hw8]
              clear hw8 e0 e1 e2
              have hln := line_impl (b := (⟨#[113, 117, 111, 116, 97]⟩ : ByteArray)) (L := [(x0, x1)]) (N := [x2]) HD8.out (by decide) (by simp) (by simp) (fun n hn => by rw [List.mem_singleton] at hn; subst hn; omega) HL8.out HN8.out
              rw [show lnB (⟨#[113, 117, 111, 116, 97]⟩ : ByteArray) [(x0, x1)] [x2] = quotaLn ((x0, x1), x2) from rfl] at hln
              refine hln.mono ?_
              rintro e w2 ⟨rfl, hb⟩
              have HI2 := Lib.hid (BldC.is_below HI8.out hb)
              have HB2 := Lib.hid (HB8.out.trans (hb.mono (by omega)))
              have hz2 := HB2.out.size
              have hls : (quotaLn ((x0, x1), x2)).size ≤ 40 := lnB_size (by decide) (by simp) (by simp)
              obtain ⟨T, hT⟩ : ∃ T, quotaLn ((x0, x1), x2) = T := ⟨_, rfl⟩
              rw [hT] at hls HCat ⊢
              clear hb hln hT
              go_wp2_with fail
              refine (BldC.write_any B B _ T _ HI2.out (by have := HTs.out; omega) (by omega)).mono ?_
              rintro e w3 ⟨rfl, h3, hb⟩
              have HI3 := Lib.hid (show Lib.IsBuilder 56 5 B B (Lib.strCells (S2 ++ joinB ((Q.map quotaLn).take (k + 1)))) w3 from Or.inr (by rw [HCat.out, ← BldC.cells_cat]; exact h3))
              have HB3 := Lib.hid (HB2.out.trans hb)
              clear h3 hb
              go_wp2
              go_roundw
              case rel => exact ⟨k + 1, by omega, by go_num, HI3, HB3.out⟩
              case measure => simp [intOf]; omega
            · have hdl : decide ((k : Int) < (Q.length : Int)) = false := decide_eq_false (by omega)
              obtain ⟨hh1, hh9⟩ := HH9.out
              obtain ⟨S3, hS3⟩ : ∃ S, S2 ++ joinB (Q.map quotaLn) = S := ⟨_, rfl⟩
              have HS3 := Lib.hid (show S3 ++ halfLn hf = M from by rw [HE.out, ← hS3, ← HS2.out, ← HS1.out]; rfl)
              have HI3 := Lib.hid (show Lib.IsBuilder 56 5 B B (Lib.strCells S3) wr from by have := HI.out; rw [List.take_of_length_le (by rw [List.length_map]; omega), hS3] at this; exact this)
              have hS3s : (Lib.strCells S3).length ≤ 720 := bld_len (by rw [← hS3, ByteArray.size_append]; have := joinB_size (L := Q.map quotaLn) quotas_mem; rw [List.length_map] at this; omega)
              have X5 := Lib.hid (X1.out.call hB')
              have q3 := X5.out.at_ 3 rfl
              obtain ⟨w8, hw8⟩ : ∃ w, w = wr.alloc (.cells #[.int .i64 hf] 2) := ⟨_, rfl⟩
              have hb8 : Below wr.heap.size wr w8 := by rw [hw8]; exact (Below.refl _ _).alloc (Nat.le_refl _) _
              have HN8 := Lib.hid (rd_oneI hf (show Blk w8 wr.heap.size 2 #[.int .i64 hf] from by rw [hw8]; exact Blk.new _ _ _))
              have HD8 := Lib.hid (HDV.out.below (hB'.trans (hb8.mono (by omega))) (by rw [← HBe.out]; exact hDV0))
              have HI8 := Lib.hid (BldC.is_below HI3.out hb8)
              have HB8 := Lib.hid (HB.out.trans (hb8.mono hBw))
              have hz8 := HB8.out.size
              clear hB hB' hS3 hb8 hTs
              go_wp2_with fail
              rw [← hw8]
              clear hw8 q3
              have hln := line_impl (b := (⟨#[104, 97, 108, 102]⟩ : ByteArray)) (L := []) (la := none) (lc := 0) (N := [hf]) HD8.out (by decide) (by simp) (by simp) (fun n hn => by rw [List.mem_singleton] at hn; subst hn; omega) (rd_noneL _ _) HN8.out
              rw [show lnB (⟨#[104, 97, 108, 102]⟩ : ByteArray) [] [hf] = halfLn hf from rfl] at hln
              refine hln.mono ?_
              rintro e w2 ⟨rfl, hb⟩
              have HI2 := Lib.hid (BldC.is_below HI8.out hb)
              have HB2 := Lib.hid (HB8.out.trans (hb.mono (by omega)))
              have hz2 := HB2.out.size
              have hls : (halfLn hf).size ≤ 40 := lnB_size (by decide) (by simp) (by simp)
              obtain ⟨T, hT⟩ : ∃ T, halfLn hf = T := ⟨_, rfl⟩
              rw [hT] at hls HS3 ⊢
              clear hb hln hT
              go_wp2_with fail
              refine (BldC.write_any B B _ T _ HI2.out (by omega) (by omega)).mono ?_
              rintro e w3 ⟨rfl, h3, hb⟩
              have HI4 := Lib.hid (show Lib.IsBuilder 56 5 B B (Lib.strCells M) w3 from Or.inr (by rw [← HS3.out, ← BldC.cells_cat]; exact h3))
              have HB3 := Lib.hid (HB2.out.trans hb)
              have hz3 := HB3.out.size
              clear h3 hb
              go_wp2_with fail
              refine (BldC.str_any B B M _ HI4.out (by omega)).mono ?_
              rintro e w4 ⟨rfl, hb⟩
              have HB4 := Lib.hid (HB3.out.trans hb)
              clear hb
              go_wp2
              go_ret
              exact ⟨rfl, HB1.out.trans (HB4.out.mono (by rw [HBe.out]; exact hz1))⟩
end Go.Proofs.YtdghcjlgmajffaaDoor.RepC
end
section
namespace Go.Proofs.YtdghcjlgmajffaaDoor.RepC
open Go.RowKit RowC ValC SpanC KeptC
set_option linter.unusedVariables false
set_option linter.unusedSimpArgs false
theorem cm_labs : ∀ L : List D_Label, sumL R_Label.cm L = 2 * L.length
  | [] => rfl
  | x :: xs => by
    simp only [sumL, cm_labs xs, List.length_cons]
    have : R_Label.cm x = 2 := rfl
    omega
theorem sz_labs : ∀ L : List D_Label, sumL R_Label.sz L = 0
  | [] => rfl
  | x :: xs => by
    simp only [sumL, sz_labs xs]
    rfl
theorem cm_labss : ∀ C : List (List D_Label), sumL (Sl R_Label).cm C ≤ 2 * (Sl (Sl R_Label)).sz C
  | [] => Nat.zero_le _
  | x :: xs => by
    have h := cm_labss xs
    have e : (Sl (Sl R_Label)).sz (x :: xs) = (x :: xs).length + ((Sl R_Label).sz x + sumL (Sl R_Label).sz xs) := rfl
    have e2 : (Sl (Sl R_Label)).sz xs = xs.length + sumL (Sl R_Label).sz xs := rfl
    have e3 : (Sl R_Label).sz x = x.length + sumL R_Label.sz x := rfl
    have e4 : (Sl R_Label).cm x = sumL R_Label.cm x := rfl
    rw [e, e3, sz_labs]
    rw [e2] at h
    simp only [sumL, List.length_cons]
    rw [e4, cm_labs]
    omega
theorem cm_pairs : ∀ L : List D_Pair, sumL R_Pair.cm L = 5 * L.length
  | [] => rfl
  | x :: xs => by
    simp only [sumL, cm_pairs xs, List.length_cons]
    have : R_Pair.cm x = 5 := rfl
    omega
theorem cm_quotas : ∀ L : List D_Quota, sumL R_Quota.cm L = 3 * L.length
  | [] => rfl
  | x :: xs => by
    simp only [sumL, cm_quotas xs, List.length_cons]
    have : R_Quota.cm x = 3 := rfl
    omega
theorem cvs_Config {d : D_Config} (h : R_Config.sz d ≤ 1048576) : R_Config.cv d ≤ 8388608 := by
  obtain ⟨C, P, Q, hf⟩ := d
  rw [szd_Config, flat_PairS, flat_QuotaS] at h
  rw [cvd_Config, cm_pairs, cm_quotas]
  have := cm_labss C
  omega
end Go.Proofs.YtdghcjlgmajffaaDoor.RepC
end
section
namespace Go.Proofs.YtdghcjlgmajffaaDoor.RepC
open Go.RowKit RowC ValC SpanC KeptC
set_option linter.unusedVariables false
set_option linter.unusedSimpArgs false
noncomputable def textG (d : D_Config) : ByteArray := textC d.1 d.2.1 d.2.2.1 d.2.2.2
theorem gtext_spec {d : D_Config} {cs : List Value} {W : World} (h : R_Config.rd W W.heap.size d cs) : Calls Tryd.prog 5 #[.agg cs.toArray] W (fun e w' => e = .returned (.string (textG d)) ∧ Below W.heap.size W w') := by
  obtain ⟨C, P, Q, hf⟩ := d
  obtain ⟨a0, c0, a1, c1, a2, c2, rfl, k0, k1, k2⟩ := rd_Config h
  exact ctext_spec k0 k1 k2
theorem gtext_impl {d : D_Config} {cs : List Value} {W : World} (hD : LabC.Door W) (h : R_Config.rd W W.heap.size d cs) : Calls Tryd.prog 7 #[.agg cs.toArray] W (fun e w' => e = .returned (.string (textG d)) ∧ Below W.heap.size W w') := by
  obtain ⟨C, P, Q, hf⟩ := d
  obtain ⟨a0, c0, a1, c1, a2, c2, rfl, k0, k1, k2⟩ := rd_Config h
  exact ctext_impl k0 k1 k2 hD
end Go.Proofs.YtdghcjlgmajffaaDoor.RepC
end
section
namespace Go.Proofs.YtdghcjlgmajffaaDoor.RepC
open Go.RowKit RowC ValC SpanC KeptC
set_option linter.unusedVariables false
set_option linter.unusedSimpArgs false
set_option maxRecDepth 100000 in
set_option maxHeartbeats 4000000 in
theorem law_configtext {DL0 : List (List (D_Label))} {DL1 : List (D_Pair)} {DL2 : List (D_Quota)} {Dx3 : Int} {Da0 : Option Addr} {Dc0 : Nat} {Da1 : Option Addr} {Dc1 : Nat} {Da2 : Option Addr} {Dc2 : Nat} {W : World} (hD : R_Config.rd W W.heap.size (DL0, DL1, DL2, Dx3) [.slice Da0 DL0.length Dc0, .slice Da1 DL1.length Dc1, .slice Da2 DL2.length Dc2, .int .i64 Dx3]) (hDoor : LabC.Door W) :
    Calls Tryd.prog 3 #[.agg #[.slice Da0 DL0.length Dc0, .slice Da1 DL1.length Dc1, .slice Da2 DL2.length Dc2, .int .i64 Dx3]] W fun e w' => e = .returned (.bool true) ∧ Below W.heap.size W w' := by
  have HDOOR := Lib.hid hDoor
  have HDZ := Lib.hid hDoor.lt
  clear hDoor
  have HD := Lib.hid hD
  have HD0 := Lib.hid hD
  clear hD
  have hbA : Below (W).heap.size (W) (W.alloc (.cells #[.slice Da0 DL0.length Dc0, .slice Da1 DL1.length Dc1, .slice Da2 DL2.length Dc2, .int .i64 Dx3] 26)) := (Below.refl _ _).alloc (Nat.le_refl _) _
  have HD_1 := Lib.hid (gmv R_Config_ok HD.out hbA)
  have HB1 := Lib.hid (show Below W.heap.size W (W.alloc (.cells #[.slice Da0 DL0.length Dc0, .slice Da1 DL1.length Dc1, .slice Da2 DL2.length Dc2, .int .i64 Dx3] 26)) from hbA)
  have HZ1 := Lib.hid ((hbA).size)
  clear HD
  have PD_1 := Blk.new (W) 26 #[.slice Da0 DL0.length Dc0, .slice Da1 DL1.length Dc1, .slice Da2 DL2.length Dc2, .int .i64 Dx3]
  have PDh_1 := Lib.hid PD_1
  clear PD_1 hbA
  by_cases hsz : R_Config.sz (DL0, DL1, DL2, Dx3) ≤ 1048576
  rotate_left
  · skip
    go_enter Tryd.func3, Tryd.ntmps3
    have qPD_0 := PDh_1.out.at_ 0 rfl
    have qPD_1 := PDh_1.out.at_ 1 rfl
    have qPD_2 := PDh_1.out.at_ 2 rfl
    have qPD_3 := PDh_1.out.at_ 3 rfl
    go_wp2_with fail
    refine (gsz_Config (by omega) (by omega) HD_1.out).mono ?_
    intro e w2 h
    obtain ⟨rfl, hb⟩ := szC_elim h
    rw [szR_no (by omega)]
    clear qPD_0 qPD_1 qPD_2 qPD_3
    have PD_2 := Lib.hid (PDh_1.out.call hb)
    have HD_2 := Lib.hid (gmv R_Config_ok HD_1.out hb)
    have HB2 := Lib.hid (HB1.out.trans ((hb).mono HB1.out.size))
    have HZ2 := Lib.hid ((hb).size)
    clear PDh_1 HD_1 HB1
    clear h hb
    go_wp2
    go_ret
    exact ⟨rfl, HB2.out⟩
  have HSZD := Lib.hid hsz
  have HSAD := Lib.hid (cvs_Config hsz)
  obtain ⟨m, hm⟩ : ∃ m : Nat, R_Config.sz (DL0, DL1, DL2, Dx3) = m := ⟨_, rfl⟩
  have HM := Lib.hid hm
  rw [hm] at hsz
  clear hm
  have hlt1 : decide ((1048576 : Int) - (m : Int) < 0) = false := decide_eq_false (by omega)
  obtain ⟨dR, hD⟩ : ∃ d, textG (DL0, DL1, DL2, Dx3) = d := ⟨_, rfl⟩
  have HDD := Lib.hid hD
  clear hD
  go_enter Tryd.func3, Tryd.ntmps3
  have qPD_0 := PDh_1.out.at_ 0 rfl
  have qPD_1 := PDh_1.out.at_ 1 rfl
  have qPD_2 := PDh_1.out.at_ 2 rfl
  have qPD_3 := PDh_1.out.at_ 3 rfl
  go_wp2_with fail
  refine (gsz_Config (by omega) (by omega) HD_1.out).mono ?_
  intro e w2 h
  obtain ⟨rfl, hb⟩ := szC_elim h
  rw [HM.out, szR_yes (by omega)]
  clear qPD_0 qPD_1 qPD_2 qPD_3
  have PD_2 := Lib.hid (PDh_1.out.call hb)
  have HD_2 := Lib.hid (gmv R_Config_ok HD_1.out hb)
  have HB2 := Lib.hid (HB1.out.trans ((hb).mono HB1.out.size))
  have HZ2 := Lib.hid ((hb).size)
  clear PDh_1 HD_1 HB1
  clear hsz
  clear h hb
  have HPL := Lib.hid (PD_2.out.lt)
  have qPD_0 := PD_2.out.at_ 0 rfl
  have qPD_1 := PD_2.out.at_ 1 rfl
  have qPD_2 := PD_2.out.at_ 2 rfl
  have qPD_3 := PD_2.out.at_ 3 rfl
  go_wp2_with fail
  refine (gto_Config HSZD.out HD_2.out).mono ?_
  intro e w3 h
  obtain ⟨us, rfl, hu, hb⟩ := newV_elim h
  obtain ⟨aD03, cD03, aD13, cD13, aD23, cD23, rfl, hu⟩ := owc_Config hu
  clear qPD_0 qPD_1 qPD_2 qPD_3
  have PD_3 := Lib.hid (PD_2.out.call hb)
  have HD_3 := Lib.hid (gmv R_Config_ok HD_2.out hb)
  have HB3 := Lib.hid (HB2.out.trans ((hb).mono HB2.out.size))
  have HZ3 := Lib.hid ((hb).size)
  clear PD_2 HD_2 HB2
  have ND_3 := Lib.hid (owG_new hu)
  clear hu
  clear h hb
  go_wp2_with fail
  refine (gtext_spec (ND_3.out.rd R_Config_ok)).mono ?_
  intro e w4 h
  rw [HDD.out] at h
  obtain ⟨rfl, hb⟩ := h
  have h := hb
  have PD_4 := Lib.hid (PD_3.out.call hb)
  have HD_4 := Lib.hid (gmv R_Config_ok HD_3.out hb)
  have ND_4 := Lib.hid (ND_3.out.mv R_Config_ok hb)
  have HB4 := Lib.hid (HB3.out.trans ((hb).mono HB3.out.size))
  have HZ4 := Lib.hid ((hb).size)
  clear PD_3 HD_3 ND_3 HB3
  clear h hb
  clear ND_4
  have qPD_0 := PD_4.out.at_ 0 rfl
  have qPD_1 := PD_4.out.at_ 1 rfl
  have qPD_2 := PD_4.out.at_ 2 rfl
  have qPD_3 := PD_4.out.at_ 3 rfl
  go_wp2_with fail
  refine (gto_Config HSZD.out HD_4.out).mono ?_
  intro e w5 h
  obtain ⟨us, rfl, hu, hb⟩ := newV_elim h
  obtain ⟨aD05, cD05, aD15, cD15, aD25, cD25, rfl, hu⟩ := owc_Config hu
  clear qPD_0 qPD_1 qPD_2 qPD_3
  have PD_5 := Lib.hid (PD_4.out.call hb)
  have HD_5 := Lib.hid (gmv R_Config_ok HD_4.out hb)
  have HB5 := Lib.hid (HB4.out.trans ((hb).mono HB4.out.size))
  have HZ5 := Lib.hid ((hb).size)
  clear PD_4 HD_4 HB4
  have X_5 := Lib.hid (owG_new hu)
  have HSX := Lib.hid (fun k (hk : Rg w4.heap.size w5.heap.size k) => hk)
  clear hu
  clear h hb
  have hbA : Below (w5).heap.size (w5) (w5.alloc (.cells #[.slice aD05 DL0.length cD05, .slice aD15 DL1.length cD15, .slice aD25 DL2.length cD25, .int .i64 Dx3] 33)) := (Below.refl _ _).alloc (Nat.le_refl _) _
  have PD_6 := Lib.hid (PD_5.out.call hbA)
  have HD_6 := Lib.hid (gmv R_Config_ok HD_5.out hbA)
  have X_6 := Lib.hid (X_5.out.mv R_Config_ok hbA)
  have HB6 := Lib.hid (HB5.out.trans ((hbA).mono HB5.out.size))
  have HZ6 := Lib.hid ((hbA).size)
  clear PD_5 HD_5 X_5 HB5
  have BX_6 := Blk.new (w5) 33 #[.slice aD05 DL0.length cD05, .slice aD15 DL1.length cD15, .slice aD25 DL2.length cD25, .int .i64 Dx3]
  have BXh_6 := Lib.hid BX_6
  clear BX_6 hbA
  have HZ7 := Lib.hid ((show (w5.alloc (.cells #[.slice aD05 DL0.length cD05, .slice aD15 DL1.length cD15, .slice aD25 DL2.length cD25, .int .i64 Dx3] 33)).heap.size = w5.heap.size + 1 by simp))
  obtain ⟨wz6, hwz6⟩ : ∃ w, w = w5.alloc (.cells #[.slice aD05 DL0.length cD05, .slice aD15 DL1.length cD15, .slice aD25 DL2.length cD25, .int .i64 Dx3] 33) := ⟨_, rfl⟩
  rw [← hwz6] at PD_6 BXh_6 HD_6 X_6 HB6 HZ6 HZ7
  have qBX_0 := BXh_6.out.at_ 0 rfl
  have qBX_1 := BXh_6.out.at_ 1 rfl
  have qBX_2 := BXh_6.out.at_ 2 rfl
  have qBX_3 := BXh_6.out.at_ 3 rfl
  have qBX_0_u := qBX_0
  rw [hwz6] at qBX_0_u
  have qBX_1_u := qBX_1
  rw [hwz6] at qBX_1_u
  have qBX_2_u := qBX_2
  rw [hwz6] at qBX_2_u
  have qBX_3_u := qBX_3
  rw [hwz6] at qBX_3_u
  go_wp2_with fail
  rw [← hwz6]
  clear hwz6
  refine (gtext_impl (HDOOR.out.below HB6.out HDZ.out) (X_6.out.rd R_Config_ok)).mono ?_
  intro e w7 h
  rw [HDD.out] at h
  obtain ⟨rfl, hb⟩ := h
  have h := hb
  clear qBX_0 qBX_1 qBX_2 qBX_3 qBX_0_u qBX_1_u qBX_2_u qBX_3_u
  have PD_7 := Lib.hid (PD_6.out.call hb)
  have BX_7 := Lib.hid (BXh_6.out.call hb)
  have HD_7 := Lib.hid (gmv R_Config_ok HD_6.out hb)
  have X_7 := Lib.hid (X_6.out.mv R_Config_ok hb)
  have HB7 := Lib.hid (HB6.out.trans ((hb).mono HB6.out.size))
  have HZ8 := Lib.hid ((hb).size)
  clear PD_6 BXh_6 HD_6 X_6 HB6
  clear h hb
  go_wp2_with fail
  refine wp_region_held_drew (S := (fun V => Below (w7).heap.size (w7) V)) (by kernel_rfl) ((Below.refl _ _).drew) (fun hHeld => ?_)
  refine tk 0 hHeld ?_ (hy := fun w hSw => by (try dsimp only at hSw); have k0 := (hSw.cell (p := ⟨w5.heap.size, 0, none⟩) BX_7.out.lt).trans (BX_7.out.at_ 0 rfl); have k1 := (hSw.cell (p := ⟨w5.heap.size, 1, none⟩) BX_7.out.lt).trans (BX_7.out.at_ 1 rfl); have k2 := (hSw.cell (p := ⟨w5.heap.size, 2, none⟩) BX_7.out.lt).trans (BX_7.out.at_ 2 rfl); have k3 := (hSw.cell (p := ⟨w5.heap.size, 3, none⟩) BX_7.out.lt).trans (BX_7.out.at_ 3 rfl); clear hSw; go_simp; try with_reducible rfl)
  refine tk 1 hHeld ?_ (hy := fun w hSw => by (try dsimp only at hSw); have k0 := (hSw.cell (p := ⟨W.heap.size, 0, none⟩) PD_7.out.lt).trans (PD_7.out.at_ 0 rfl); have k1 := (hSw.cell (p := ⟨W.heap.size, 1, none⟩) PD_7.out.lt).trans (PD_7.out.at_ 1 rfl); have k2 := (hSw.cell (p := ⟨W.heap.size, 2, none⟩) PD_7.out.lt).trans (PD_7.out.at_ 2 rfl); have k3 := (hSw.cell (p := ⟨W.heap.size, 3, none⟩) PD_7.out.lt).trans (PD_7.out.at_ 3 rfl); clear hSw; go_simp; try with_reducible rfl)
  refine rd1 2 (fun K hK => ?_)
  go_simp
  go_at_call 6
  refine (gto_Config HSZD.out (gmv R_Config_ok HD_7.out hHeld)).mono ?_
  intro e w701 h
  obtain ⟨us, rfl, hu, hb⟩ := newV_elim h
  obtain ⟨aD0701, cD0701, aD1701, cD1701, aD2701, cD2701, rfl, hu⟩ := owc_Config hu
  have NZ := Lib.hid (owG_new hu)
  clear h hu
  refine hK.out _ _ (hHeld.trans (hb.mono hHeld.size)) (fun hHeld => ?_)
  clear hK K hb
  refine rd1 3 (fun K hK => ?_)
  go_simp
  go_at_call 8
  refine (geq_Config (gmv R_Config_ok (X_7.out.rd R_Config_ok) hHeld) (NZ.out.rd R_Config_ok)).mono ?_
  intro e w702 h
  obtain ⟨rfl, hb⟩ := isB_elim h
  clear h
  refine hK.out _ _ (hHeld.trans (hb.mono hHeld.size)) (fun hHeld => ?_)
  clear hK K hb
  refine tk 4 hHeld ?_
  refine rd0 ?_
  have HF := Lib.hid hHeld
  clear hHeld
  have hF := HF.out
  have PD_8 := Lib.hid (PD_7.out.call hF)
  have BX_8 := Lib.hid (BX_7.out.call hF)
  have HD_8 := Lib.hid (gmv R_Config_ok HD_7.out hF)
  have X_8 := Lib.hid (X_7.out.mv R_Config_ok hF)
  have HB8 := Lib.hid (HB7.out.trans ((hF).mono HB7.out.size))
  have HZ9 := Lib.hid ((hF).size)
  clear PD_7 BX_7 HD_7 X_7 HB7
  clear HF hF NZ
  go_wp2
  go_ret
  exact ⟨rfl, HB8.out⟩
end Go.Proofs.YtdghcjlgmajffaaDoor.RepC
end
section
namespace Go.Proofs.YtdghcjlgmajffaaDoor.TabC
open Go.ChangeShapes Go.WideShapes Go.RowKit
theorem laid_mem {P : Program} {W : World} : ∀ (L : List (String × DataW Unit)) (ps : List MemPlace), DataW.LaidVars P W L ps → ∀ x ∈ L, ∃ g t cs fuel p, P.globalNamed x.1 = some g ∧ (P.globals[g]?).map (·.type) = some t ∧ W.var? P x.1 = some cs ∧
    DataW.trod (fun _ => ()) P W 0 (fun _ => true) false fuel t cs.toList = some (x.2, p)
  | [], _, _, x, hx => by cases hx
  | (n, d) :: r, ps, h, x, hx => by
    obtain ⟨g, t, cs, fuel, p, q, h1, h2, h3, h4, h5, _⟩ := h
    rcases List.mem_cons.1 hx with rfl | hx
    · exact ⟨g, t, cs, fuel, p, h1, h2, h3, h4⟩
    · exact laid_mem r q h5 x hx
theorem laid_ints {P : Program} {W : World} {L : List (String × DataW Unit)} {name : String} {k : IntKind} {ns : List Int} {g t e : Nat} {len : Nat} (hL : laidMet P L W) (hm : (name, DataW.agg (ns.map fun n => DataW.lit (.int k n))) ∈ L)
    (hg : P.globalNamed name = some g) (ht : (P.globals[g]?).map (·.type) = some t) (hu : P.underlying t = some (.array len e)) (he : P.underlying e = some (.int k)) (hc : P.cellsOf e = 1) :
    ∀ i (hi : i < ns.length), W.cell? ⟨g, i, none⟩ = some (.int k ns[i]) := by
  obtain ⟨ps, hl, _, _⟩ := hL
  obtain ⟨g', t', cs, fuel, p, h1, h2, h3, h4⟩ := laid_mem L ps hl _ hm
  obtain rfl := Option.some.inj (hg.symm.trans h1)
  obtain rfl := Option.some.inj (ht.symm.trans h2)
  obtain ⟨xs, m, rfl, hx, _, hn, hel⟩ := DataW.trod_array hu h4
  simp only [Prod.mk.injEq, DataW.agg.injEq] at hx
  have hlen : xs.length = ns.length := by have := congrArg List.length hx.1; simpa using this.symm
  intro i hi
  have hi2 : i < xs.length := by omega
  have h5 := hel i (by omega)
  rw [hc, List.getElem?_eq_getElem hi2] at h5
  obtain ⟨n, e1, e2, _⟩ := DataW.trod_int he h5
  have hxi : ns[i] = n := by
    have h6 : (ns.map fun n => (DataW.lit (.int k n) : DataW Unit))[i]? = (xs.map (·.1))[i]? := by rw [hx.1]
    rw [List.getElem?_map, List.getElem?_map, List.getElem?_eq_getElem hi, List.getElem?_eq_getElem hi2, e2] at h6
    simpa using h6
  have hcell := World.var?_cell hg h3 i
  rw [hcell]
  have h7 : cs.toList[i]? = some (.int k n) := by
    have := congrArg (fun l => l[0]?) e1
    simp only [Nat.mul_one, List.getElem?_take, List.getElem?_drop] at this
    simpa using this
  rw [hxi, ← h7]
  simp
theorem plain_met {P : Program} {L : List (String × DataW Unit)} {W : World} (hp : (L.all fun x => x.2.handleName?.isNone) = true) (h : laidMetH P L W) : laidMet P L W := by
  rw [MakeChecks.laidMetH_plain _ _ _ hp] at h
  exact h
end Go.Proofs.YtdghcjlgmajffaaDoor.TabC
end
section
namespace Go.Proofs.YtdghcjlgmajffaaDoor.LabC
open Go.RowKit
theorem door_of {L : List (String × DataW Unit)} {W : World} (hp : (L.all fun x => x.2.handleName?.isNone) = true) (hm : ("loop.example/g00658/impl.setLetters", DataW.agg (([97, 98, 99] : List Int).map fun n => DataW.lit (.int .i32 n))) ∈ L) (h : laidMetH Tryd.prog L W) : Door W := by
  have hi := TabC.laid_ints (TabC.plain_met hp h) hm (g := 0) (t := 102) (e := 21) (len := 3) (by kernel_rfl) (by kernel_rfl) Tryd.underlying102 Tryd.underlying21 (by kernel_rfl)
  exact ⟨hi 0 (by decide), hi 1 (by decide), hi 2 (by decide)⟩
end Go.Proofs.YtdghcjlgmajffaaDoor.LabC
end
