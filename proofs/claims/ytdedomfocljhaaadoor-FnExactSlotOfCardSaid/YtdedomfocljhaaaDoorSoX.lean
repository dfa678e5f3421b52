/- SoS, SoI, SoJ, SoG in one text. -/
import Derived.Test.YtdedomfocljhaaaDoorSoP
import Derived.Test.YtdedomfocljhaaaDoorDsGv
import Derived.Test.YtdedomfocljhaaaDoorFrG
namespace Go.Proofs.YtdedomfocljhaaaDoor.FrC
open Go.RowKit PutM PutC JoinC SealC SpanC GetM GetC CrcC KeptC RepC ValC RowC
set_option linter.unusedVariables false
set_option linter.unusedSimpArgs false
set_option maxRecDepth 100000

set_option maxHeartbeats 1600000 in
theorem slot_s (t : ByteArray) (W : World) (ht : t.size ≤ maxLen) : Calls Tryd.prog 50 #[.string t] W fun e w' => e = .returned (foV (slotR t)) ∧ Below W.heap.size W w' := by
  have HF := Lib.hid (fun w => fread_s t 0 w ht (by omega))
  have HL := Lib.hid (slotR_long (t := t))
  have HA := Lib.hid (slotR_as (t := t))
  obtain ⟨⟨⟨n, u⟩, q, c⟩, hf⟩ : ∃ x, frR t 0 = x := ⟨_, rfl⟩
  rw [hf] at HF HL HA
  simp only [foV_mk] at HF
  unfold maxLen at ht
  clear hf
  obtain ⟨w0, hw0⟩ : ∃ w, w = W.alloc (.cells #[.int .i64 0, .string ⟨#[]⟩, .int .i64 0, .int .i64 0] 25) := ⟨_, rfl⟩
  have HB0 := Lib.hid (show Below W.heap.size W w0 from by rw [hw0]; exact (Below.refl _ _).alloc (Nat.le_refl _) _)
  have hq9 : Blk w0 W.heap.size 25 #[.int .i64 0, .string ⟨#[]⟩, .int .i64 0, .int .i64 0] := by
    have h9 := Blk.new W 25 #[.int .i64 0, .string ⟨#[]⟩, .int .i64 0, .int .i64 0]
    try simp only [World.size_alloc] at h9
    rw [hw0]
    exact h9
  have X1 := Lib.hid hq9
  clear hq9
  go_enter Tryd.func50, Tryd.ntmps50
  go_upto_region 1 with fail
  rw [← hw0]
  clear hw0
  go_wp2_with fail
  refine (HF.out _).mono ?_
  rintro e v1 ⟨rfl, hb⟩
  have X1 := Lib.hid (X1.out.call hb)
  have HB0 := Lib.hid (HB0.out.trans (hb.mono HB0.out.size))
  clear hb
  obtain ⟨v2, hv2⟩ : ∃ V, V = v1.alloc (.cells #[.int .i64 n, .string u, .int .i64 q, .int .i64 c] 25) := ⟨_, rfl⟩
  have hb : Below v1.heap.size v1 v2 := by rw [hv2]; exact (Below.refl _ _).alloc (Nat.le_refl _) _
  have hq9 : Blk v2 v1.heap.size 25 #[.int .i64 n, .string u, .int .i64 q, .int .i64 c] := by rw [hv2]; exact Blk.new _ _ _
  have X1 := Lib.hid (X1.out.call hb)
  have HB0 := Lib.hid (HB0.out.trans (hb.mono HB0.out.size))
  have X3 := Lib.hid hq9
  clear hb hq9
  go_upto_region 2 with fail
  rw [← hv2]
  clear hv2
  have X3_q0 := X3.out.at_ 0 rfl
  have X3_q1 := X3.out.at_ 1 rfl
  have X3_q2 := X3.out.at_ 2 rfl
  have X3_q3 := X3.out.at_ 3 rfl
  have X1_q0 := X1.out.at_ 0 rfl
  have X1_q1 := X1.out.at_ 1 rfl
  have X1_q2 := X1.out.at_ 2 rfl
  have X1_q3 := X1.out.at_ 3 rfl
  have X1_s0 := X1.out.soft 0
  have X1_s1 := X1.out.soft 1
  have X1_s2 := X1.out.soft 2
  have X1_s3 := X1.out.soft 3
  by_cases hc : c = 0
  rotate_left
  · have hcc : (c == 0) = false := by simpa using hc
    have HE := Lib.hid (HA.out (fun h => hc h.1))
    clear hc
    go_wp2
    exact bodyPost_ret (v := foV ((n, u), q, c)) (by simp [results, Tryd.results50, go_sem, foV, badF, *]) rfl ⟨by rw [HE.out], ((((HB0.out.setCell (p := ⟨W.heap.size, 0, none⟩) (by show W.heap.size ≤ W.heap.size; omega) _).setCell (p := ⟨W.heap.size, 1, none⟩) (by show W.heap.size ≤ W.heap.size; omega) _).setCell (p := ⟨W.heap.size, 2, none⟩) (by show W.heap.size ≤ W.heap.size; omega) _).setCell (p := ⟨W.heap.size, 3, none⟩) (by show W.heap.size ≤ W.heap.size; omega) _)⟩
  subst hc
  by_cases hq : q = (t.size : Int)
  rotate_left
  · have hcc : (q != (t.size : Int)) = true := by simpa using hq
    have HE := Lib.hid (HL.out ⟨rfl, hq⟩)
    clear hq
    go_wp2
    exact bodyPost_ret (v := foV (badF 3)) (by simp [results, Tryd.results50, go_sem, foV, badF, *]) rfl ⟨by rw [HE.out], ((((HB0.out.setCell (p := ⟨W.heap.size, 0, none⟩) (by show W.heap.size ≤ W.heap.size; omega) _).setCell (p := ⟨W.heap.size, 1, none⟩) (by show W.heap.size ≤ W.heap.size; omega) _).setCell (p := ⟨W.heap.size, 2, none⟩) (by show W.heap.size ≤ W.heap.size; omega) _).setCell (p := ⟨W.heap.size, 3, none⟩) (by show W.heap.size ≤ W.heap.size; omega) _)⟩
  have hcc : (q != (t.size : Int)) = false := by simpa using hq
  have HE := Lib.hid (HA.out (fun h => h.2 hq))
  clear hq
  go_wp2
  exact bodyPost_ret (v := foV ((n, u), q, 0)) (by simp [results, Tryd.results50, go_sem, foV, badF, *]) rfl ⟨by rw [HE.out], ((((HB0.out.setCell (p := ⟨W.heap.size, 0, none⟩) (by show W.heap.size ≤ W.heap.size; omega) _).setCell (p := ⟨W.heap.size, 1, none⟩) (by show W.heap.size ≤ W.heap.size; omega) _).setCell (p := ⟨W.heap.size, 2, none⟩) (by show W.heap.size ≤ W.heap.size; omega) _).setCell (p := ⟨W.heap.size, 3, none⟩) (by show W.heap.size ≤ W.heap.size; omega) _)⟩
set_option maxHeartbeats 1600000 in
theorem of_s {L : List D_Region} {p seq : Int} {a : Option Addr} {ca : Nat} {W : World} {k : Nat} {x0 x1 x2 : ByteArray} (hx : L[k]? = some (x0, x1, x2)) (hL : RdSl R_Region W W.heap.size L a ca) :
    Calls Tryd.prog 51 #[.agg #[.slice a L.length ca, .int .i64 p], .int .i64 k, .int .i64 seq] W fun e w' => e = .returned (foV (ofR (x0, x1, x2) seq)) ∧ Below W.heap.size W w' := by
  have HR := Lib.hid hL
  have hk := (List.getElem?_eq_some_iff.1 hx).1
  have hln : L.length ≤ 9223372036854775807 := by have h1 := hL.1; have h2 := hL.2.1; unfold maxLen at h2; omega
  have hk0 : (0 : Int) ≤ (k : Int) := Int.natCast_nonneg _
  have hk2 : (k : Int) < (L.length : Int) := by omega
  have HX := Lib.hid hx
  obtain ⟨g, o, rfl, hg, _, _, _, b0, b1, _⟩ := reg_at hL hx
  have HE := Lib.hid (fun w => slot_s x0 w b0)
  have HO := Lib.hid (fun w => slot_s x1 w b1)
  have HV0 := Lib.hid (ofR_even (x := (x0, x1, x2)) (seq := seq))
  have HV1 := Lib.hid (ofR_odd (x := (x0, x1, x2)) (seq := seq))
  have HV2 := Lib.hid (ofR_none (x := (x0, x1, x2)) (seq := seq))
  have HK0 := Lib.hid (show okS x0 seq = ((slotR x0).2.2 == 0 && (slotR x0).1.1 == seq) from rfl)
  have HK1 := Lib.hid (show okS x1 seq = ((slotR x1).2.2 == 0 && (slotR x1).1.1 == seq) from rfl)
  simp only at HV0 HV1 HV2
  obtain ⟨⟨⟨n0, u0⟩, q0, c0⟩, hf0⟩ : ∃ x, slotR x0 = x := ⟨_, rfl⟩
  obtain ⟨⟨⟨n1, u1⟩, q1, c1⟩, hf1⟩ : ∃ x, slotR x1 = x := ⟨_, rfl⟩
  rw [hf0] at HE HV0 HK0
  rw [hf1] at HO HV1 HK1
  simp only [foV_mk] at HE HO
  simp only at HK0 HK1
  clear hf0 hf1 hL hx hg b0 b1 hk
  obtain ⟨w0, hw0⟩ : ∃ w, w = (W.alloc (.cells #[.slice (some ⟨g, o, none⟩) L.length ca, .int .i64 p] 42)).alloc (.cells #[.int .i64 0, .string ⟨#[]⟩, .int .i64 0, .int .i64 0] 25) := ⟨_, rfl⟩
  have HB0 := Lib.hid (show Below W.heap.size W w0 from by rw [hw0]; exact ((Below.refl _ _).alloc (Nat.le_refl _) _).alloc (by simp) _)
  have hq9 : Blk w0 W.heap.size 42 #[.slice (some ⟨g, o, none⟩) L.length ca, .int .i64 p] := by
    have h9 := Blk.new W 42 #[.slice (some ⟨g, o, none⟩) L.length ca, .int .i64 p]
    try simp only [World.size_alloc] at h9
    rw [hw0]
    exact (h9.alloc _)
  have XD := Lib.hid hq9
  clear hq9
  have hq9 : Blk w0 (W.heap.size + 1) 25 #[.int .i64 0, .string ⟨#[]⟩, .int .i64 0, .int .i64 0] := by
    have h9 := Blk.new (W.alloc (.cells #[.slice (some ⟨g, o, none⟩) L.length ca, .int .i64 p] 42)) 25 #[.int .i64 0, .string ⟨#[]⟩, .int .i64 0, .int .i64 0]
    try simp only [World.size_alloc] at h9
    rw [hw0]
    exact h9
  have X6 := Lib.hid hq9
  clear hq9
  have HR := Lib.hid (rdm R_Region_ok HR.out HB0.out)
  go_enter Tryd.func51, Tryd.ntmps51
  go_upto_region 1 with fail
  rw [← hw0]
  clear hw0
  have XD_q0 := XD.out.at_ 0 rfl
  have XD_q1 := XD.out.at_ 1 rfl
  obtain ⟨g', o', he, _, e0, e1, _, _, _, _⟩ := reg_at HR.out HX.out
  cases he
  go_wp2_with fail
  refine (HE.out _).mono ?_
  rintro e v1 ⟨rfl, hb⟩
  clear XD_q0 XD_q1
  clear e0 e1
  have XD := Lib.hid (XD.out.call hb)
  have X6 := Lib.hid (X6.out.call hb)
  have HR := Lib.hid (rdm R_Region_ok HR.out hb)
  have HB0 := Lib.hid (HB0.out.trans (hb.mono HB0.out.size))
  clear hb
  have HLT7a := Lib.hid (show W.heap.size + 1 < v1.heap.size from X6.out.lt)
  obtain ⟨v2, hv2⟩ : ∃ V, V = v1.alloc (.cells #[.int .i64 n0, .string u0, .int .i64 q0, .int .i64 c0] 25) := ⟨_, rfl⟩
  have hb : Below v1.heap.size v1 v2 := by rw [hv2]; exact (Below.refl _ _).alloc (Nat.le_refl _) _
  have hq9 : Blk v2 v1.heap.size 25 #[.int .i64 n0, .string u0, .int .i64 q0, .int .i64 c0] := by rw [hv2]; exact Blk.new _ _ _
  have XD := Lib.hid (XD.out.call hb)
  have X6 := Lib.hid (X6.out.call hb)
  have HR := Lib.hid (rdm R_Region_ok HR.out hb)
  have HB0 := Lib.hid (HB0.out.trans (hb.mono HB0.out.size))
  have X7 := Lib.hid hq9
  clear hb hq9
  go_upto_region 2 with fail
  rw [← hv2]
  clear hv2
  have X7_q0 := X7.out.at_ 0 rfl
  have X7_q1 := X7.out.at_ 1 rfl
  have X7_q2 := X7.out.at_ 2 rfl
  have X7_q3 := X7.out.at_ 3 rfl
  have X6_q0 := X6.out.at_ 0 rfl
  have X6_q1 := X6.out.at_ 1 rfl
  have X6_q2 := X6.out.at_ 2 rfl
  have X6_q3 := X6.out.at_ 3 rfl
  have X6_s0 := X6.out.soft 0
  have X6_s1 := X6.out.soft 1
  have X6_s2 := X6.out.soft 2
  have X6_s3 := X6.out.soft 3
  have X7_s0 := X7.out.soft 0
  have X7_s1 := X7.out.soft 1
  have X7_s2 := X7.out.soft 2
  have X7_s3 := X7.out.soft 3
  by_cases h0 : c0 = 0 ∧ n0 = seq
  · obtain ⟨rfl, rfl⟩ := h0
    have HEQ := Lib.hid (HV0.out (by rw [HK0.out]; simp))
    have hs : (n0 != n0) = false := by simp
    go_wp2
    exact bodyPost_ret (v := foV ((n0, u0), 0, 0)) (by simp [results, Tryd.results51, go_sem, foV, badF, *]) rfl ⟨by rw [HEQ.out], ((((HB0.out.setCell (p := ⟨W.heap.size + 1, 0, none⟩) (by show W.heap.size ≤ W.heap.size + 1; omega) _).setCell (p := ⟨W.heap.size + 1, 1, none⟩) (by show W.heap.size ≤ W.heap.size + 1; omega) _).setCell (p := ⟨W.heap.size + 1, 2, none⟩) (by show W.heap.size ≤ W.heap.size + 1; omega) _).setCell (p := ⟨W.heap.size + 1, 3, none⟩) (by show W.heap.size ≤ W.heap.size + 1; omega) _)⟩
  have hk0b : okS x0 seq = false := by rw [HK0.out]; simp; omega
  have HN0 := Lib.hid hk0b
  clear hk0b
  have XD_q0 := XD.out.at_ 0 rfl
  have XD_q1 := XD.out.at_ 1 rfl
  obtain ⟨g', o', he, _, e0, e1, _, _, _, _⟩ := reg_at HR.out HX.out
  cases he
  have hcase : (c0 != 0) = true ∨ ((c0 != 0) = false ∧ (n0 != seq) = true) := by simp; omega
  clear h0
  have HLT7 := HLT7a
  rcases hcase with hc0 | ⟨hc0, hs0⟩
  · skip
    go_wp2_with fail
    refine (HO.out _).mono ?_
    rintro e v3 ⟨rfl, hb⟩
    clear X7_q0 X7_q1 X7_q2 X7_q3 X6_q0 X6_q1 X6_q2 X6_q3 X6_s0 X6_s1 X6_s2 X6_s3 X7_s0 X7_s1 X7_s2 X7_s3 XD_q0 XD_q1
    clear e0 e1
    have XD := Lib.hid (XD.out.call hb)
    have X6 := Lib.hid (X6.out.call hb)
    have X7 := Lib.hid (X7.out.call hb)
    have HR := Lib.hid (rdm R_Region_ok HR.out hb)
    have HB0 := Lib.hid (HB0.out.trans (hb.mono HB0.out.size))
    clear hb
    have hX7 := X7.out
    have X7_q0 := X7.out.at_ 0 rfl
    have X7_q1 := X7.out.at_ 1 rfl
    have X7_q2 := X7.out.at_ 2 rfl
    have X7_q3 := X7.out.at_ 3 rfl
    have X6_q0 := X6.out.at_ 0 rfl
    have X6_q1 := X6.out.at_ 1 rfl
    have X6_q2 := X6.out.at_ 2 rfl
    have X6_q3 := X6.out.at_ 3 rfl
    have X6_s0 := X6.out.soft 0
    have X6_s1 := X6.out.soft 1
    have X6_s2 := X6.out.soft 2
    have X6_s3 := X6.out.soft 3
    have X7_s0 := X7.out.soft 0
    have X7_s1 := X7.out.soft 1
    have X7_s2 := X7.out.soft 2
    have X7_s3 := X7.out.soft 3
    obtain ⟨w9, hw9⟩ : ∃ u, u = ((((v3.setCell ⟨v1.heap.size, 0, none⟩ (.int .i64 n1)).setCell ⟨v1.heap.size, 1, none⟩ (.string u1)).setCell ⟨v1.heap.size, 2, none⟩ (.int .i64 q1)).setCell ⟨v1.heap.size, 3, none⟩ (.int .i64 c1)) := ⟨_, rfl⟩
    have hlt := HLT7.out
    have hY7 : Blk w9 v1.heap.size 25 #[.int .i64 n1, .string u1, .int .i64 q1, .int .i64 c1] := by rw [hw9]; exact ((((X7.out.set 0 _).set 1 _).set 2 _).set 3 _).as rfl
    have hY6 : Blk w9 (W.heap.size + 1) 25 #[.int .i64 0, .string ⟨#[]⟩, .int .i64 0, .int .i64 0] := by rw [hw9]; exact (((X6.out.far (by omega) _).far (by omega) _).far (by omega) _).far (by omega) _
    have hb9 : Below W.heap.size W w9 := by rw [hw9]; exact below4 HB0.out (by omega) _ _ _ _
    go_upto_region 4 with fail
    rw [← hw9]
    clear hw9 hX7
    clear X7_q0 X7_q1 X7_q2 X7_q3 X6_q0 X6_q1 X6_q2 X6_q3 X6_s0 X6_s1 X6_s2 X6_s3 X7_s0 X7_s1 X7_s2 X7_s3
    have X7 := Lib.hid hY7
    have X6 := Lib.hid hY6
    have HB0 := Lib.hid hb9
    clear hY7 hY6 hb9
    have X7_q0 := X7.out.at_ 0 rfl
    have X7_q1 := X7.out.at_ 1 rfl
    have X7_q2 := X7.out.at_ 2 rfl
    have X7_q3 := X7.out.at_ 3 rfl
    have X6_q0 := X6.out.at_ 0 rfl
    have X6_q1 := X6.out.at_ 1 rfl
    have X6_q2 := X6.out.at_ 2 rfl
    have X6_q3 := X6.out.at_ 3 rfl
    have X6_s0 := X6.out.soft 0
    have X6_s1 := X6.out.soft 1
    have X6_s2 := X6.out.soft 2
    have X6_s3 := X6.out.soft 3
    by_cases h1 : c1 = 0 ∧ n1 = seq
    · obtain ⟨rfl, rfl⟩ := h1
      have HEQ := Lib.hid (HV1.out HN0.out (by rw [HK1.out]; simp))
      have hs1 : (n1 != n1) = false := by simp
      go_wp2
      exact bodyPost_ret (v := foV ((n1, u1), 0, 0)) (by simp [results, Tryd.results51, go_sem, foV, badF, *]) rfl ⟨by rw [HEQ.out], ((((HB0.out.setCell (p := ⟨W.heap.size + 1, 0, none⟩) (by show W.heap.size ≤ W.heap.size + 1; omega) _).setCell (p := ⟨W.heap.size + 1, 1, none⟩) (by show W.heap.size ≤ W.heap.size + 1; omega) _).setCell (p := ⟨W.heap.size + 1, 2, none⟩) (by show W.heap.size ≤ W.heap.size + 1; omega) _).setCell (p := ⟨W.heap.size + 1, 3, none⟩) (by show W.heap.size ≤ W.heap.size + 1; omega) _)⟩
    have hk1b : okS x1 seq = false := by rw [HK1.out]; simp; omega
    have HEQ := Lib.hid (HV2.out HN0.out hk1b)
    have hcase1 : (c1 != 0) = true ∨ ((c1 != 0) = false ∧ (n1 != seq) = true) := by simp; omega
    clear h1 hk1b
    rcases hcase1 with hc1 | ⟨hc1, hs1⟩
    · skip
      go_wp2
      exact bodyPost_ret (v := foV (badF 6)) (by simp [results, Tryd.results51, go_sem, foV, badF, *]) rfl ⟨by rw [HEQ.out], ((((HB0.out.setCell (p := ⟨W.heap.size + 1, 0, none⟩) (by show W.heap.size ≤ W.heap.size + 1; omega) _).setCell (p := ⟨W.heap.size + 1, 1, none⟩) (by show W.heap.size ≤ W.heap.size + 1; omega) _).setCell (p := ⟨W.heap.size + 1, 2, none⟩) (by show W.heap.size ≤ W.heap.size + 1; omega) _).setCell (p := ⟨W.heap.size + 1, 3, none⟩) (by show W.heap.size ≤ W.heap.size + 1; omega) _)⟩
    · skip
      go_wp2
      exact bodyPost_ret (v := foV (badF 6)) (by simp [results, Tryd.results51, go_sem, foV, badF, *]) rfl ⟨by rw [HEQ.out], ((((HB0.out.setCell (p := ⟨W.heap.size + 1, 0, none⟩) (by show W.heap.size ≤ W.heap.size + 1; omega) _).setCell (p := ⟨W.heap.size + 1, 1, none⟩) (by show W.heap.size ≤ W.heap.size + 1; omega) _).setCell (p := ⟨W.heap.size + 1, 2, none⟩) (by show W.heap.size ≤ W.heap.size + 1; omega) _).setCell (p := ⟨W.heap.size + 1, 3, none⟩) (by show W.heap.size ≤ W.heap.size + 1; omega) _)⟩
  · skip
    go_wp2_with fail
    refine (HO.out _).mono ?_
    rintro e v3 ⟨rfl, hb⟩
    clear X7_q0 X7_q1 X7_q2 X7_q3 X6_q0 X6_q1 X6_q2 X6_q3 X6_s0 X6_s1 X6_s2 X6_s3 X7_s0 X7_s1 X7_s2 X7_s3 XD_q0 XD_q1
    clear e0 e1
    have XD := Lib.hid (XD.out.call hb)
    have X6 := Lib.hid (X6.out.call hb)
    have X7 := Lib.hid (X7.out.call hb)
    have HR := Lib.hid (rdm R_Region_ok HR.out hb)
    have HB0 := Lib.hid (HB0.out.trans (hb.mono HB0.out.size))
    clear hb
    have hX7 := X7.out
    have X7_q0 := X7.out.at_ 0 rfl
    have X7_q1 := X7.out.at_ 1 rfl
    have X7_q2 := X7.out.at_ 2 rfl
    have X7_q3 := X7.out.at_ 3 rfl
    have X6_q0 := X6.out.at_ 0 rfl
    have X6_q1 := X6.out.at_ 1 rfl
    have X6_q2 := X6.out.at_ 2 rfl
    have X6_q3 := X6.out.at_ 3 rfl
    have X6_s0 := X6.out.soft 0
    have X6_s1 := X6.out.soft 1
    have X6_s2 := X6.out.soft 2
    have X6_s3 := X6.out.soft 3
    have X7_s0 := X7.out.soft 0
    have X7_s1 := X7.out.soft 1
    have X7_s2 := X7.out.soft 2
    have X7_s3 := X7.out.soft 3
    obtain ⟨w9, hw9⟩ : ∃ u, u = ((((v3.setCell ⟨v1.heap.size, 0, none⟩ (.int .i64 n1)).setCell ⟨v1.heap.size, 1, none⟩ (.string u1)).setCell ⟨v1.heap.size, 2, none⟩ (.int .i64 q1)).setCell ⟨v1.heap.size, 3, none⟩ (.int .i64 c1)) := ⟨_, rfl⟩
    have hlt := HLT7.out
    have hY7 : Blk w9 v1.heap.size 25 #[.int .i64 n1, .string u1, .int .i64 q1, .int .i64 c1] := by rw [hw9]; exact ((((X7.out.set 0 _).set 1 _).set 2 _).set 3 _).as rfl
    have hY6 : Blk w9 (W.heap.size + 1) 25 #[.int .i64 0, .string ⟨#[]⟩, .int .i64 0, .int .i64 0] := by rw [hw9]; exact (((X6.out.far (by omega) _).far (by omega) _).far (by omega) _).far (by omega) _
    have hb9 : Below W.heap.size W w9 := by rw [hw9]; exact below4 HB0.out (by omega) _ _ _ _
    go_upto_region 4 with fail
    rw [← hw9]
    clear hw9 hX7
    clear X7_q0 X7_q1 X7_q2 X7_q3 X6_q0 X6_q1 X6_q2 X6_q3 X6_s0 X6_s1 X6_s2 X6_s3 X7_s0 X7_s1 X7_s2 X7_s3
    have X7 := Lib.hid hY7
    have X6 := Lib.hid hY6
    have HB0 := Lib.hid hb9
    clear hY7 hY6 hb9
    have X7_q0 := X7.out.at_ 0 rfl
    have X7_q1 := X7.out.at_ 1 rfl
    have X7_q2 := X7.out.at_ 2 rfl
    have X7_q3 := X7.out.at_ 3 rfl
    have X6_q0 := X6.out.at_ 0 rfl
    have X6_q1 := X6.out.at_ 1 rfl
    have X6_q2 := X6.out.at_ 2 rfl
    have X6_q3 := X6.out.at_ 3 rfl
    have X6_s0 := X6.out.soft 0
    have X6_s1 := X6.out.soft 1
    have X6_s2 := X6.out.soft 2
    have X6_s3 := X6.out.soft 3
    by_cases h1 : c1 = 0 ∧ n1 = seq
    · obtain ⟨rfl, rfl⟩ := h1
      have HEQ := Lib.hid (HV1.out HN0.out (by rw [HK1.out]; simp))
      have hs1 : (n1 != n1) = false := by simp
      go_wp2
      exact bodyPost_ret (v := foV ((n1, u1), 0, 0)) (by simp [results, Tryd.results51, go_sem, foV, badF, *]) rfl ⟨by rw [HEQ.out], ((((HB0.out.setCell (p := ⟨W.heap.size + 1, 0, none⟩) (by show W.heap.size ≤ W.heap.size + 1; omega) _).setCell (p := ⟨W.heap.size + 1, 1, none⟩) (by show W.heap.size ≤ W.heap.size + 1; omega) _).setCell (p := ⟨W.heap.size + 1, 2, none⟩) (by show W.heap.size ≤ W.heap.size + 1; omega) _).setCell (p := ⟨W.heap.size + 1, 3, none⟩) (by show W.heap.size ≤ W.heap.size + 1; omega) _)⟩
    have hk1b : okS x1 seq = false := by rw [HK1.out]; simp; omega
    have HEQ := Lib.hid (HV2.out HN0.out hk1b)
    have hcase1 : (c1 != 0) = true ∨ ((c1 != 0) = false ∧ (n1 != seq) = true) := by simp; omega
    clear h1 hk1b
    rcases hcase1 with hc1 | ⟨hc1, hs1⟩
    · skip
      go_wp2
      exact bodyPost_ret (v := foV (badF 6)) (by simp [results, Tryd.results51, go_sem, foV, badF, *]) rfl ⟨by rw [HEQ.out], ((((HB0.out.setCell (p := ⟨W.heap.size + 1, 0, none⟩) (by show W.heap.size ≤ W.heap.size + 1; omega) _).setCell (p := ⟨W.heap.size + 1, 1, none⟩) (by show W.heap.size ≤ W.heap.size + 1; omega) _).setCell (p := ⟨W.heap.size + 1, 2, none⟩) (by show W.heap.size ≤ W.heap.size + 1; omega) _).setCell (p := ⟨W.heap.size + 1, 3, none⟩) (by show W.heap.size ≤ W.heap.size + 1; omega) _)⟩
    · skip
      go_wp2
      exact bodyPost_ret (v := foV (badF 6)) (by simp [results, Tryd.results51, go_sem, foV, badF, *]) rfl ⟨by rw [HEQ.out], ((((HB0.out.setCell (p := ⟨W.heap.size + 1, 0, none⟩) (by show W.heap.size ≤ W.heap.size + 1; omega) _).setCell (p := ⟨W.heap.size + 1, 1, none⟩) (by show W.heap.size ≤ W.heap.size + 1; omega) _).setCell (p := ⟨W.heap.size + 1, 2, none⟩) (by show W.heap.size ≤ W.heap.size + 1; omega) _).setCell (p := ⟨W.heap.size + 1, 3, none⟩) (by show W.heap.size ≤ W.heap.size + 1; omega) _)⟩
theorem disk_sb {L : List D_Region} {p : Int} {a : Option Addr} {c : Nat} {W : World} {b : Bool} (hb : diskB L p = b) (h : RdSl R_Region W W.heap.size L a c) : Calls Tryd.prog 49 #[.agg #[.slice a L.length c, .int .i64 p]] W fun e w' => e = .returned (.bool b) ∧ Below W.heap.size W w' := by
  subst hb
  exact (disk_s h).mono fun e w' h => resB_is diskB_iff h
theorem disk_ib {L : List D_Region} {p : Int} {a : Option Addr} {c : Nat} {W : World} {b : Bool} (hb : diskB L p = b) (h : RdSl R_Region W W.heap.size L a c) : Calls Tryd.prog 53 #[.agg #[.slice a L.length c, .int .i64 p]] W fun e w' => e = .returned (.bool b) ∧ Below W.heap.size W w' := by
  subst hb
  exact (disk_i h).mono fun e w' h => resB_is diskB_iff h
set_option maxHeartbeats 1600000 in
theorem slotof_s {L : List D_Region} {p r seq : Int} {a : Option Addr} {ca : Nat} {W : World} (hL : RdSl R_Region W W.heap.size L a ca) :
    Calls Tryd.prog 27 #[.agg #[.slice a L.length ca, .int .i64 p], .int .i64 r, .int .i64 seq] W fun e w' => e = .returned (foV (slotOf (L, p) r seq)) ∧ Below W.heap.size W w' := by
  have HR := Lib.hid hL
  have hln : L.length ≤ 9223372036854775807 := by have h1 := hL.1; have h2 := hL.2.1; unfold maxLen at h2; omega
  obtain ⟨b, hb⟩ : ∃ b, diskB L p = b := ⟨_, rfl⟩
  have HBQ := Lib.hid hb
  clear hL hb
  obtain ⟨w0, hw0⟩ : ∃ w, w = (W.alloc (.cells #[.slice a L.length ca, .int .i64 p] 42)).alloc (.cells #[.int .i64 0, .string ⟨#[]⟩, .int .i64 0, .int .i64 0] 25) := ⟨_, rfl⟩
  have HB0 := Lib.hid (show Below W.heap.size W w0 from by rw [hw0]; exact ((Below.refl _ _).alloc (Nat.le_refl _) _).alloc (by simp) _)
  have hq9 : Blk w0 W.heap.size 42 #[.slice a L.length ca, .int .i64 p] := by
    have h9 := Blk.new W 42 #[.slice a L.length ca, .int .i64 p]
    try simp only [World.size_alloc] at h9
    rw [hw0]
    exact (h9.alloc _)
  have XD := Lib.hid hq9
  clear hq9
  have hq9 : Blk w0 (W.heap.size + 1) 25 #[.int .i64 0, .string ⟨#[]⟩, .int .i64 0, .int .i64 0] := by
    have h9 := Blk.new (W.alloc (.cells #[.slice a L.length ca, .int .i64 p] 42)) 25 #[.int .i64 0, .string ⟨#[]⟩, .int .i64 0, .int .i64 0]
    try simp only [World.size_alloc] at h9
    rw [hw0]
    exact h9
  have X6 := Lib.hid hq9
  clear hq9
  have HR := Lib.hid (rdm R_Region_ok HR.out HB0.out)
  go_enter Tryd.func27, Tryd.ntmps27
  go_upto_region 1 with fail
  rw [← hw0]
  clear hw0
  have XD_q0 := XD.out.at_ 0 rfl
  have XD_q1 := XD.out.at_ 1 rfl
  go_wp2_with fail
  refine (disk_sb HBQ.out HR.out).mono ?_
  rintro e v1 ⟨rfl, hb⟩
  clear XD_q0 XD_q1
  have XD := Lib.hid (XD.out.call hb)
  have X6 := Lib.hid (X6.out.call hb)
  have HR := Lib.hid (rdm R_Region_ok HR.out hb)
  have HB0 := Lib.hid (HB0.out.trans (hb.mono HB0.out.size))
  clear hb
  have XD_q0 := XD.out.at_ 0 rfl
  have XD_q1 := XD.out.at_ 1 rfl
  have X6_q0 := X6.out.at_ 0 rfl
  have X6_q1 := X6.out.at_ 1 rfl
  have X6_q2 := X6.out.at_ 2 rfl
  have X6_q3 := X6.out.at_ 3 rfl
  have X6_s0 := X6.out.soft 0
  have X6_s1 := X6.out.soft 1
  have X6_s2 := X6.out.soft 2
  have X6_s3 := X6.out.soft 3
  cases b with
  | false =>
    have HEQ := Lib.hid (slotOf_form (r := r) (seq := seq) HBQ.out)
    go_wp2
    exact bodyPost_ret (v := foV (badF 1)) (by simp [results, Tryd.results27, go_sem, foV, badF, *]) rfl ⟨by rw [HEQ.out], ((((HB0.out.setCell (p := ⟨W.heap.size + 1, 0, none⟩) (by show W.heap.size ≤ W.heap.size + 1; omega) _).setCell (p := ⟨W.heap.size + 1, 1, none⟩) (by show W.heap.size ≤ W.heap.size + 1; omega) _).setCell (p := ⟨W.heap.size + 1, 2, none⟩) (by show W.heap.size ≤ W.heap.size + 1; omega) _).setCell (p := ⟨W.heap.size + 1, 3, none⟩) (by show W.heap.size ≤ W.heap.size + 1; omega) _)⟩
  | true =>
    by_cases h0 : 0 ≤ r
    rotate_left
    · have hd0 : decide (r < 0) = true := decide_eq_true (by omega)
      have HEQ := Lib.hid (slotOf_none (seq := seq) HBQ.out (fun h => h0 h.1))
      clear h0
      go_wp2
      exact bodyPost_ret (v := foV (badF 6)) (by simp [results, Tryd.results27, go_sem, foV, badF, *]) rfl ⟨by rw [HEQ.out], ((((HB0.out.setCell (p := ⟨W.heap.size + 1, 0, none⟩) (by show W.heap.size ≤ W.heap.size + 1; omega) _).setCell (p := ⟨W.heap.size + 1, 1, none⟩) (by show W.heap.size ≤ W.heap.size + 1; omega) _).setCell (p := ⟨W.heap.size + 1, 2, none⟩) (by show W.heap.size ≤ W.heap.size + 1; omega) _).setCell (p := ⟨W.heap.size + 1, 3, none⟩) (by show W.heap.size ≤ W.heap.size + 1; omega) _)⟩
    have hd0 : decide (r < 0) = false := decide_eq_false (by omega)
    by_cases h1 : r < (L.length : Int)
    rotate_left
    · have hd1 : decide ((L.length : Int) ≤ r) = true := decide_eq_true (by omega)
      have HEQ := Lib.hid (slotOf_none (seq := seq) HBQ.out (fun h => h1 h.2))
      clear h1
      go_wp2
      exact bodyPost_ret (v := foV (badF 6)) (by simp [results, Tryd.results27, go_sem, foV, badF, *]) rfl ⟨by rw [HEQ.out], ((((HB0.out.setCell (p := ⟨W.heap.size + 1, 0, none⟩) (by show W.heap.size ≤ W.heap.size + 1; omega) _).setCell (p := ⟨W.heap.size + 1, 1, none⟩) (by show W.heap.size ≤ W.heap.size + 1; omega) _).setCell (p := ⟨W.heap.size + 1, 2, none⟩) (by show W.heap.size ≤ W.heap.size + 1; omega) _).setCell (p := ⟨W.heap.size + 1, 3, none⟩) (by show W.heap.size ≤ W.heap.size + 1; omega) _)⟩
    have hd1 : decide ((L.length : Int) ≤ r) = false := decide_eq_false (by omega)
    obtain ⟨k, rfl⟩ := Int.eq_ofNat_of_zero_le h0
    have hdn : ¬ L.length ≤ k := by omega
    obtain ⟨⟨x0, x1, x2⟩, hx⟩ := el_some (show k < L.length by omega)
    have HEQ := Lib.hid (slotOf_yes (seq := seq) HBQ.out hx)
    have HOF := Lib.hid (of_s (p := p) (seq := seq) hx HR.out)
    obtain ⟨⟨⟨n, u⟩, q, c⟩, hf⟩ : ∃ x, ofR (x0, x1, x2) seq = x := ⟨_, rfl⟩
    rw [hf] at HEQ HOF
    simp only [foV_mk] at HOF
    clear hf hx h0 h1
    go_wp2_with fail
    refine (HOF.out).mono ?_
    rintro e v2 ⟨rfl, hb⟩
    clear XD_q0 XD_q1 X6_q0 X6_q1 X6_q2 X6_q3 X6_s0 X6_s1 X6_s2 X6_s3
    have XD := Lib.hid (XD.out.call hb)
    have X6 := Lib.hid (X6.out.call hb)
    have HR := Lib.hid (rdm R_Region_ok HR.out hb)
    have HB0 := Lib.hid (HB0.out.trans (hb.mono HB0.out.size))
    clear hb
    have X6_q0 := X6.out.at_ 0 rfl
    have X6_q1 := X6.out.at_ 1 rfl
    have X6_q2 := X6.out.at_ 2 rfl
    have X6_q3 := X6.out.at_ 3 rfl
    have X6_s0 := X6.out.soft 0
    have X6_s1 := X6.out.soft 1
    have X6_s2 := X6.out.soft 2
    have X6_s3 := X6.out.soft 3
    go_wp2
    exact bodyPost_ret (v := foV ((n, u), q, c)) (by simp [results, Tryd.results27, go_sem, foV, badF, *]) rfl ⟨by rw [HEQ.out], ((((HB0.out.setCell (p := ⟨W.heap.size + 1, 0, none⟩) (by show W.heap.size ≤ W.heap.size + 1; omega) _).setCell (p := ⟨W.heap.size + 1, 1, none⟩) (by show W.heap.size ≤ W.heap.size + 1; omega) _).setCell (p := ⟨W.heap.size + 1, 2, none⟩) (by show W.heap.size ≤ W.heap.size + 1; omega) _).setCell (p := ⟨W.heap.size + 1, 3, none⟩) (by show W.heap.size ≤ W.heap.size + 1; omega) _)⟩
end Go.Proofs.YtdedomfocljhaaaDoor.FrC
namespace Go.Proofs.YtdedomfocljhaaaDoor.FrC
open Go.RowKit PutM PutC JoinC SealC SpanC GetM GetC CrcC KeptC RepC ValC RowC
set_option linter.unusedVariables false
set_option linter.unusedSimpArgs false
set_option maxRecDepth 100000

/-- heldBy's answer -/
def heldV (t : ByteArray) : (Int × ByteArray) × Bool := if (slotR t).2.2 = 0 then ((slotR t).1, true) else ((0, { data := #[] }), false)
theorem heldV_yes {t : ByteArray} {n q : Int} {u : ByteArray} (h : frR t 0 = ((n, u), q, 0)) (h2 : q = t.size) : heldV t = ((n, u), true) := by
  have e : slotR t = ((n, u), q, 0) := by rw [slotR_as (by rw [h]; simp [h2]), h]
  unfold heldV
  rw [e]
  rfl
theorem heldV_no {t : ByteArray} {n q c : Int} {u : ByteArray} (h : frR t 0 = ((n, u), q, c)) (h2 : ¬ (c = 0 ∧ q = t.size)) : heldV t = ((0, { data := #[] }), false) := by
  unfold heldV
  rw [if_neg]
  by_cases hc : c = 0
  · rw [slotR_long (by rw [h]; exact ⟨hc, fun e => h2 ⟨hc, e⟩⟩)]
    decide
  · rw [slotR_as (by rw [h]; exact fun e => hc e.1), h]
    exact hc
def tupF (x : (Int × ByteArray) × Bool) : Value := .tuple #[.agg #[.int .i64 x.1.1, .string x.1.2], .bool x.2]
theorem tupF_mk (n : Int) (u : ByteArray) (b : Bool) : tupF ((n, u), b) = .tuple #[.agg #[.int .i64 n, .string u], .bool b] := rfl
def slN (x0 x1 : ByteArray) : Nat → ByteArray
  | 0 => x0
  | _ => x1
/-- held's answer -/
def heldX (x : D_Region) (seq : Int) : (Int × ByteArray) × Bool := if okS x.1 seq = true then ((slotR x.1).1, true) else if okS x.2.1 seq = true then ((slotR x.2.1).1, true) else ((0, { data := #[] }), false)
theorem heldX_at {x0 x1 x2 : ByteArray} {seq : Int} {k : Nat} (hk : k < 2) (h : ∀ j, j < k → okS (slN x0 x1 j) seq = false) (h1 : okS (slN x0 x1 k) seq = true) : heldX (x0, x1, x2) seq = ((slotR (slN x0 x1 k)).1, true) := by
  unfold heldX
  rcases (show k = 0 ∨ k = 1 by omega) with rfl | rfl
  · exact if_pos h1
  · have h0 : okS x0 seq = false := h 0 (by omega)
    rw [if_neg (by simp [h0])]
    exact if_pos h1
theorem heldX_none {x0 x1 x2 : ByteArray} {seq : Int} (h : ∀ j, j < 2 → okS (slN x0 x1 j) seq = false) : heldX (x0, x1, x2) seq = ((0, { data := #[] }), false) := by
  have h0 : okS x0 seq = false := h 0 (by omega)
  have h1 : okS x1 seq = false := h 1 (by omega)
  unfold heldX
  rw [if_neg (by simp [h0]), if_neg (by simp [h1])]
theorem okS_held {t : ByteArray} {seq n : Int} {u : ByteArray} {b : Bool} (h : heldV t = ((n, u), b)) : okS t seq = (b && (n == seq)) ∧ (b = true → (slotR t).1 = (n, u)) := by
  unfold heldV at h
  split at h
  · rename_i hc
    simp only [Prod.mk.injEq] at h
    obtain ⟨h1, rfl⟩ := h
    unfold okS
    rw [hc, h1]
    exact ⟨by simp, fun _ => rfl⟩
  · rename_i hc
    simp only [Prod.mk.injEq] at h
    obtain ⟨⟨rfl, rfl⟩, rfl⟩ := h
    unfold okS
    exact ⟨by simp [hc], fun e => by cases e⟩
theorem heldV_size {t : ByteArray} {n : Int} {u : ByteArray} {b : Bool} (h : heldV t = ((n, u), b)) : u.size ≤ 2980 := by
  unfold heldV at h
  split at h
  · simp only [Prod.mk.injEq] at h
    have := slotR_size t
    rw [h.1] at this
    exact this
  · simp only [Prod.mk.injEq] at h
    obtain ⟨⟨_, rfl⟩, _⟩ := h
    show (ByteArray.mk #[]).size ≤ 2980
    decide
set_option maxHeartbeats 1600000 in
theorem heldby_i (t : ByteArray) (W : World) (ht : t.size ≤ maxLen) (hD : Door W) : Calls Tryd.prog 55 #[.string t] W fun e w' => e = .returned (tupF (heldV t)) ∧ Below W.heap.size W w' := by
  have HF := Lib.hid (fun w hw => fread_i t 0 w ht (by omega) hw)
  have HY := Lib.hid (fun n q u => heldV_yes (t := t) (n := n) (q := q) (u := u))
  have HN := Lib.hid (fun n q c u => heldV_no (t := t) (n := n) (q := q) (c := c) (u := u))
  have hok := frR_ok (s := t) (a := 0)
  obtain ⟨⟨⟨n, u⟩, q, c⟩, hf⟩ : ∃ x, frR t 0 = x := ⟨_, rfl⟩
  rw [hf] at HF hok
  simp only [foV_mk] at HF
  have HFR := Lib.hid hf
  have hqs : c = 0 → q ≤ t.size := fun h => (hok h).2.2.1
  have HD := Lib.hid hD
  unfold maxLen at ht
  clear hf hok hD
  obtain ⟨w0, hw0⟩ : ∃ w, w = W.alloc (.cells #[.int .i64 0, .string ⟨#[]⟩] 23) := ⟨_, rfl⟩
  have HB0 := Lib.hid (show Below W.heap.size W w0 from by rw [hw0]; exact (Below.refl _ _).alloc (Nat.le_refl _) _)
  have hq9 : Blk w0 W.heap.size 23 #[.int .i64 0, .string ⟨#[]⟩] := by
    have h9 := Blk.new W 23 #[.int .i64 0, .string ⟨#[]⟩]
    try simp only [World.size_alloc] at h9
    rw [hw0]
    exact h9
  have X2 := Lib.hid hq9
  clear hq9
  have HDO := Lib.hid (HD.out.below HB0.out HD.out.lt)
  go_enter Tryd.func55, Tryd.ntmps55
  go_upto_region 1 with fail
  rw [← hw0]
  clear hw0
  go_wp2_with fail
  refine (HF.out _ HDO.out).mono ?_
  rintro e v1 ⟨rfl, hb⟩
  have X2 := Lib.hid (X2.out.call hb)
  have HDO := Lib.hid (HDO.out.below hb HDO.out.lt)
  have HB0 := Lib.hid (HB0.out.trans (hb.mono HB0.out.size))
  clear hb
  obtain ⟨v2, hv2⟩ : ∃ V, V = v1.alloc (.cells #[.int .i64 n, .string u, .int .i64 q, .int .i64 c] 25) := ⟨_, rfl⟩
  have hb : Below v1.heap.size v1 v2 := by rw [hv2]; exact (Below.refl _ _).alloc (Nat.le_refl _) _
  have hq9 : Blk v2 v1.heap.size 25 #[.int .i64 n, .string u, .int .i64 q, .int .i64 c] := by rw [hv2]; exact Blk.new _ _ _
  have X2 := Lib.hid (X2.out.call hb)
  have HDO := Lib.hid (HDO.out.below hb HDO.out.lt)
  have HB0 := Lib.hid (HB0.out.trans (hb.mono HB0.out.size))
  have X4 := Lib.hid hq9
  clear hb hq9
  go_upto_region 2 with fail
  rw [← hv2]
  clear hv2
  have X4_q0 := X4.out.at_ 0 rfl
  have X4_q1 := X4.out.at_ 1 rfl
  have X4_q2 := X4.out.at_ 2 rfl
  have X4_q3 := X4.out.at_ 3 rfl
  have X2_q0 := X2.out.at_ 0 rfl
  have X2_q1 := X2.out.at_ 1 rfl
  have X2_s0 := X2.out.soft 0
  have X2_s1 := X2.out.soft 1
  by_cases hc : c = 0
  rotate_left
  · have hcc : (c != 0) = true := by simpa using hc
    have HE := Lib.hid (HN.out _ _ _ _ HFR.out (fun h => hc h.1))
    clear hc hqs
    go_wp2
    exact bodyPost_ret (v := .tuple #[.agg #[.int .i64 0, .string ⟨#[]⟩], .bool false]) (by simp [results, Tryd.results55, go_sem, *]) rfl ⟨by rw [HE.out] <;> rfl, ((HB0.out.setCell (p := ⟨W.heap.size, 0, none⟩) (by show W.heap.size ≤ W.heap.size; omega) _).setCell (p := ⟨W.heap.size, 1, none⟩) (by show W.heap.size ≤ W.heap.size; omega) _)⟩
  subst hc
  have hq2 := hqs rfl
  by_cases hq : q = (t.size : Int)
  rotate_left
  · have hcc : decide (q < (t.size : Int)) = true := decide_eq_true (by omega)
    have HE := Lib.hid (HN.out _ _ _ _ HFR.out (fun h => hq h.2))
    clear hq hqs
    go_wp2
    exact bodyPost_ret (v := .tuple #[.agg #[.int .i64 0, .string ⟨#[]⟩], .bool false]) (by simp [results, Tryd.results55, go_sem, *]) rfl ⟨by rw [HE.out] <;> rfl, ((HB0.out.setCell (p := ⟨W.heap.size, 0, none⟩) (by show W.heap.size ≤ W.heap.size; omega) _).setCell (p := ⟨W.heap.size, 1, none⟩) (by show W.heap.size ≤ W.heap.size; omega) _)⟩
  have hcc : decide (q < (t.size : Int)) = false := decide_eq_false (by omega)
  have HE := Lib.hid (HY.out _ _ _ HFR.out hq)
  clear hq hqs hq2
  go_wp2
  exact bodyPost_ret (v := .tuple #[.agg #[.int .i64 n, .string u], .bool true]) (by simp [results, Tryd.results55, go_sem, *]) rfl ⟨by rw [HE.out] <;> rfl, ((HB0.out.setCell (p := ⟨W.heap.size, 0, none⟩) (by show W.heap.size ≤ W.heap.size; omega) _).setCell (p := ⟨W.heap.size, 1, none⟩) (by show W.heap.size ≤ W.heap.size; omega) _)⟩
set_option maxHeartbeats 1600000 in
theorem slots_i (x0 x1 x2 : ByteArray) (W : World) : Calls Tryd.prog 54 #[.agg #[.string x0, .string x1, .string x2]] W fun e w' => ∃ g, e = .returned (.slice (some ⟨g, 0, none⟩) 2 2) ∧ Blk w' g 9 #[.string x0, .string x1] ∧ Below W.heap.size W w' := by
  obtain ⟨w0, hw0⟩ : ∃ w, w = W.alloc (.cells #[.string x0, .string x1, .string x2] 70) := ⟨_, rfl⟩
  have HB0 := Lib.hid (show Below W.heap.size W w0 from by rw [hw0]; exact (Below.refl _ _).alloc (Nat.le_refl _) _)
  have X := Lib.hid (show Blk w0 W.heap.size 70 #[.string x0, .string x1, .string x2] from by rw [hw0]; exact Blk.new _ _ _)
  have q0 := X.out.at_ 0 rfl
  have q1 := X.out.at_ 1 rfl
  go_enter Tryd.func54, Tryd.ntmps54
  go_upto_region 1 with fail
  rw [← hw0]
  clear hw0
  go_wp2
  go_ret
  exact ⟨_, rfl, Blk.new _ _ _, HB0.out.alloc HB0.out.size _⟩
set_option maxHeartbeats 3200000 in
theorem held_i (x0 x1 x2 : ByteArray) (seq : Int) (W : World) (h0 : x0.size ≤ maxLen) (h1 : x1.size ≤ maxLen) (hD : Door W) : Calls Tryd.prog 58 #[.agg #[.string x0, .string x1, .string x2], .int .i64 seq] W fun e w' => e = .returned (tupF (heldX (x0, x1, x2) seq)) ∧ Below W.heap.size W w' := by
  have HD := Lib.hid hD
  have HSZ := Lib.hid (show ∀ k, (slN x0 x1 k).size ≤ maxLen from fun k => by cases k <;> assumption)
  have HAT := Lib.hid (fun k => heldX_at (x0 := x0) (x1 := x1) (x2 := x2) (seq := seq) (k := k))
  have HNO := Lib.hid (heldX_none (x0 := x0) (x1 := x1) (x2 := x2) (seq := seq))
  clear hD h0 h1
  obtain ⟨w0, hw0⟩ : ∃ w, w = (W.alloc (.cells #[.string x0, .string x1, .string x2] 70)).alloc (.cells #[.int .i64 0, .string ⟨#[]⟩] 23) := ⟨_, rfl⟩
  have HB0 := Lib.hid (show Below W.heap.size W w0 from by rw [hw0]; exact ((Below.refl _ _).alloc (Nat.le_refl _) _).alloc (by simp) _)
  have hq9 : Blk w0 W.heap.size 70 #[.string x0, .string x1, .string x2] := by
    have h9 := Blk.new W 70 #[.string x0, .string x1, .string x2]
    try simp only [World.size_alloc] at h9
    rw [hw0]
    exact (h9.alloc _)
  have XR := Lib.hid hq9
  clear hq9
  have hq9 : Blk w0 (W.heap.size + 1) 23 #[.int .i64 0, .string ⟨#[]⟩] := by
    have h9 := Blk.new (W.alloc (.cells #[.string x0, .string x1, .string x2] 70)) 23 #[.int .i64 0, .string ⟨#[]⟩]
    try simp only [World.size_alloc] at h9
    rw [hw0]
    exact h9
  have X4 := Lib.hid hq9
  clear hq9
  have HDO := Lib.hid (HD.out.below HB0.out HD.out.lt)
  go_enter Tryd.func58, Tryd.ntmps58
  go_upto_region 1 with fail
  rw [← hw0]
  clear hw0
  have XR_q0 := XR.out.at_ 0 rfl
  have XR_q1 := XR.out.at_ 1 rfl
  have XR_q2 := XR.out.at_ 2 rfl
  go_wp2_with fail
  refine (slots_i x0 x1 x2 _).mono ?_
  rintro e v1 ⟨gs, rfl, hs, hb⟩
  clear XR_q0 XR_q1 XR_q2
  have XS := Lib.hid hs
  have XR := Lib.hid (XR.out.call hb)
  have X4 := Lib.hid (X4.out.call hb)
  have HDO := Lib.hid (HDO.out.below hb HDO.out.lt)
  have HB0 := Lib.hid (HB0.out.trans (hb.mono HB0.out.size))
  clear hb
  have HGS := Lib.hid XS.out.lt
  clear hs
  have HLT := Lib.hid (show W.heap.size + 1 < v1.heap.size from X4.out.lt)
  go_wp2
  go_loopw [13] (fun i wr => ∃ k : Nat, k ≤ 2 ∧ i = .int .i64 k ∧ Hid (∀ j, j < k → okS (slN x0 x1 j) seq = false) ∧ Hid (Blk wr gs 9 #[.string x0, .string x1]) ∧ Hid (Blk wr (W.heap.size + 1) 23 #[.int .i64 0, .string ⟨#[]⟩]) ∧ Hid (Below W.heap.size W wr) ∧ Hid (Below v1.heap.size v1 wr)) (fun i _ => 2 - (intOf i).toNat)
  case atStart => exact ⟨0, by omega, rfl, Lib.hid (fun j h => absurd h (Nat.not_lt_zero _)), XS, X4, HB0, Lib.hid (Below.refl _ _)⟩
  case round =>
    obtain ⟨k, hk, rfl, HNB, XS, X4, HB0, HV⟩ := hrel
    have HDO := Lib.hid (HDO.out.below HV.out HDO.out.lt)
    by_cases hlt : k < 2
    rotate_left
    · obtain rfl : k = 2 := by omega
      have HE := Lib.hid (HNO.out HNB.out)
      have z0 := X4.out.at_ 0 rfl
      have z1 := X4.out.at_ 1 rfl
      have s0 := X4.out.soft 0
      have s1 := X4.out.soft 1
      go_wp2
      exact bodyPost_ret (v := .tuple #[.agg #[.int .i64 0, .string ⟨#[]⟩], .bool false]) (by simp [results, Tryd.results58, go_sem, *]) rfl ⟨by rw [HE.out] <;> rfl, (HB0.out.setCell (p := ⟨W.heap.size + 1, 0, none⟩) (by show W.heap.size ≤ W.heap.size + 1; omega) _).setCell (p := ⟨W.heap.size + 1, 1, none⟩) (by show W.heap.size ≤ W.heap.size + 1; omega) _⟩
    obtain ⟨t, ht⟩ : ∃ t, slN x0 x1 k = t := ⟨_, rfl⟩
    have e0 : wr.cell? ⟨gs, k, none⟩ = some (.string t) := by
      rcases (show k = 0 ∨ k = 1 by omega) with rfl | rfl
      · rw [← ht]; exact XS.out.at_ 0 rfl
      · rw [← ht]; exact XS.out.at_ 1 rfl
    have hts := HSZ.out k
    rw [ht] at hts
    have HTS := Lib.hid hts
    obtain ⟨⟨⟨n, u⟩, b⟩, hv⟩ : ∃ x, heldV t = x := ⟨_, rfl⟩
    have HH := Lib.hid (fun w hw => heldby_i t w HTS.out hw)
    rw [hv] at HH
    simp only [tupF_mk] at HH
    have HOK := Lib.hid (okS_held (seq := seq) hv)
    have HTT := Lib.hid ht
    have hk0 : (0 : Int) ≤ (k : Int) := Int.natCast_nonneg _
    have hk2 : (k : Int) < 2 := by omega
    clear hts hv ht
    go_wp2_with fail
    refine (HH.out _ HDO.out).mono ?_
    rintro e v2 ⟨rfl, hb⟩
    obtain ⟨V2, hV2⟩ : ∃ V, V = v2.alloc (.cells #[.int .i64 n, .string u] 23) := ⟨_, rfl⟩
    have hbV : Below v2.heap.size v2 V2 := by rw [hV2]; exact (Below.refl _ _).alloc (Nat.le_refl _) _
    have X8 := Lib.hid (show Blk V2 v2.heap.size 23 #[.int .i64 n, .string u] from by rw [hV2]; exact Blk.new _ _ _)
    have hb2 := hb.trans (hbV.mono hb.size)
    have XS := Lib.hid (XS.out.call hb2)
    have X4 := Lib.hid (X4.out.call hb2)
    have HB0 := Lib.hid (HB0.out.trans (hb2.mono HB0.out.size))
    have HV := Lib.hid (HV.out.trans (hb2.mono HV.out.size))
    clear hb hbV hb2 e0
    go_upto_region 5 with fail
    rw [← hV2]
    clear hV2
    have f0 := X8.out.at_ 0 rfl
    have f1 := X8.out.at_ 1 rfl
    by_cases hyes : b = true ∧ n = seq
    · obtain ⟨rfl, rfl⟩ := hyes
      have HE := Lib.hid (show heldX (x0, x1, x2) n = ((n, u), true) from by
        have h9 := HAT.out k hlt HNB.out (by rw [HTT.out, HOK.out.1]; simp)
        rw [h9, HTT.out, HOK.out.2 rfl])
      have hs : (n == n) = true := by simp
      have z0 := X4.out.at_ 0 rfl
      have z1 := X4.out.at_ 1 rfl
      have s0 := X4.out.soft 0
      have s1 := X4.out.soft 1
      go_wp2
      exact bodyPost_ret (v := .tuple #[.agg #[.int .i64 n, .string u], .bool true]) (by simp [results, Tryd.results58, go_sem, *]) rfl ⟨by rw [HE.out] <;> rfl, (HB0.out.setCell (p := ⟨W.heap.size + 1, 0, none⟩) (by show W.heap.size ≤ W.heap.size + 1; omega) _).setCell (p := ⟨W.heap.size + 1, 1, none⟩) (by show W.heap.size ≤ W.heap.size + 1; omega) _⟩
    · have hno : okS (slN x0 x1 k) seq = false := by
        rw [HTT.out, HOK.out.1]
        cases b
        · rfl
        · simp at hyes ⊢; exact hyes
      have HNB2 := Lib.hid (show ∀ j, j < k + 1 → okS (slN x0 x1 j) seq = false from fun j hj => by
        by_cases e : j = k
        · subst e; exact hno
        · exact HNB.out j (by omega))
      have hcase : b = false ∨ (b = true ∧ (n == seq) = false) := by
        cases b
        · exact .inl rfl
        · exact .inr ⟨rfl, by simp at hyes ⊢; exact hyes⟩
      clear hyes hno
      rcases hcase with rfl | ⟨rfl, hs⟩
      · go_wp2
        go_roundw
        case rel => exact ⟨k + 1, by omega, by go_num, HNB2, XS, X4, HB0, HV⟩
        case measure => (simp [intOf]) <;> omega
      · go_wp2
        go_roundw
        case rel => exact ⟨k + 1, by omega, by go_num, HNB2, XS, X4, HB0, HV⟩
        case measure => (simp [intOf]) <;> omega
end Go.Proofs.YtdedomfocljhaaaDoor.FrC
namespace Go.Proofs.YtdedomfocljhaaaDoor.FrC
open Go.RowKit PutM PutC JoinC SealC SpanC GetM GetC CrcC KeptC RepC ValC RowC
set_option linter.unusedVariables false
set_option linter.unusedSimpArgs false
set_option maxRecDepth 100000

theorem ofR_held (x : D_Region) (seq : Int) : ofR x seq = if (heldX x seq).2 = true then ((heldX x seq).1, 0, 0) else badF 6 := by
  unfold ofR heldX
  split
  · rfl
  · split
    · rfl
    · rfl
theorem hasreg_i {L : List D_Region} {p r : Int} {a : Option Addr} {c : Nat} {W : World} (hln : L.length ≤ 9223372036854775807) : Calls Tryd.prog 57 #[.agg #[.slice a L.length c, .int .i64 p], .int .i64 r] W fun e w' => e = .returned (.bool (isB r 0 ((L.length : Int) - 1))) ∧ Below W.heap.size W w' := by
  have HI := Lib.hid (fun w => is_impl r 0 ((L.length : Int) - 1) w)
  obtain ⟨w0, hw0⟩ : ∃ w, w = W.alloc (.cells #[.slice a L.length c, .int .i64 p] 42) := ⟨_, rfl⟩
  have HB0 := Lib.hid (show Below W.heap.size W w0 from by rw [hw0]; exact (Below.refl _ _).alloc (Nat.le_refl _) _)
  have X := Lib.hid (show Blk w0 W.heap.size 42 #[.slice a L.length c, .int .i64 p] from by rw [hw0]; exact Blk.new _ _ _)
  have q0 := X.out.at_ 0 rfl
  have hw : IntKind.i64.wrap ((L.length : Int) - 1) = (L.length : Int) - 1 := IntWalk.i64_in _ (by omega)
  go_enter Tryd.func57, Tryd.ntmps57
  go_upto_region 1 with fail
  rw [← hw0]
  clear hw0
  go_wp2_with fail
  refine (HI.out _).mono ?_
  rintro e w1 ⟨rfl, rfl⟩
  go_wp2
  go_ret
  exact ⟨rfl, HB0.out⟩
theorem hasreg_b {L : List D_Region} {p r : Int} {a : Option Addr} {c : Nat} {W : World} {b : Bool} (hb : isB r 0 ((L.length : Int) - 1) = b) (hln : L.length ≤ 9223372036854775807) : Calls Tryd.prog 57 #[.agg #[.slice a L.length c, .int .i64 p], .int .i64 r] W fun e w' => e = .returned (.bool b) ∧ Below W.heap.size W w' := by
  subst hb
  exact hasreg_i hln
set_option maxHeartbeats 1600000 in
theorem slotof_i {L : List D_Region} {p r seq : Int} {a : Option Addr} {ca : Nat} {W : World} (hL : RdSl R_Region W W.heap.size L a ca) (hD : Door W) :
    Calls Tryd.prog 28 #[.agg #[.slice a L.length ca, .int .i64 p], .int .i64 r, .int .i64 seq] W fun e w' => e = .returned (foV (slotOf (L, p) r seq)) ∧ Below W.heap.size W w' := by
  have HR := Lib.hid hL
  have HD := Lib.hid hD
  have hln : L.length ≤ 9223372036854775807 := by have h1 := hL.1; have h2 := hL.2.1; unfold maxLen at h2; omega
  obtain ⟨b, hb⟩ : ∃ b, diskB L p = b := ⟨_, rfl⟩
  have HBQ := Lib.hid hb
  obtain ⟨b2, hb2⟩ : ∃ b, isB r 0 ((L.length : Int) - 1) = b := ⟨_, rfl⟩
  have HB2 := Lib.hid hb2
  clear hL hb hb2 hD
  obtain ⟨w0, hw0⟩ : ∃ w, w = (W.alloc (.cells #[.slice a L.length ca, .int .i64 p] 42)).alloc (.cells #[.int .i64 0, .string ⟨#[]⟩, .int .i64 0, .int .i64 0] 25) := ⟨_, rfl⟩
  have HB0 := Lib.hid (show Below W.heap.size W w0 from by rw [hw0]; exact ((Below.refl _ _).alloc (Nat.le_refl _) _).alloc (by simp) _)
  have hq9 : Blk w0 W.heap.size 42 #[.slice a L.length ca, .int .i64 p] := by
    have h9 := Blk.new W 42 #[.slice a L.length ca, .int .i64 p]
    try simp only [World.size_alloc] at h9
    rw [hw0]
    exact (h9.alloc _)
  have XD := Lib.hid hq9
  clear hq9
  have hq9 : Blk w0 (W.heap.size + 1) 25 #[.int .i64 0, .string ⟨#[]⟩, .int .i64 0, .int .i64 0] := by
    have h9 := Blk.new (W.alloc (.cells #[.slice a L.length ca, .int .i64 p] 42)) 25 #[.int .i64 0, .string ⟨#[]⟩, .int .i64 0, .int .i64 0]
    try simp only [World.size_alloc] at h9
    rw [hw0]
    exact h9
  have X6 := Lib.hid hq9
  clear hq9
  have HR := Lib.hid (rdm R_Region_ok HR.out HB0.out)
  have HDO := Lib.hid (HD.out.below HB0.out HD.out.lt)
  go_enter Tryd.func28, Tryd.ntmps28
  go_upto_region 1 with fail
  rw [← hw0]
  clear hw0
  have XD_q0 := XD.out.at_ 0 rfl
  have XD_q1 := XD.out.at_ 1 rfl
  go_wp2_with fail
  refine (disk_ib HBQ.out HR.out).mono ?_
  rintro e v1 ⟨rfl, hb⟩
  clear XD_q0 XD_q1
  have XD := Lib.hid (XD.out.call hb)
  have X6 := Lib.hid (X6.out.call hb)
  have HR := Lib.hid (rdm R_Region_ok HR.out hb)
  have HDO := Lib.hid (HDO.out.below hb HDO.out.lt)
  have HB0 := Lib.hid (HB0.out.trans (hb.mono HB0.out.size))
  clear hb
  have XD_q0 := XD.out.at_ 0 rfl
  have XD_q1 := XD.out.at_ 1 rfl
  have X6_q0 := X6.out.at_ 0 rfl
  have X6_q1 := X6.out.at_ 1 rfl
  have X6_q2 := X6.out.at_ 2 rfl
  have X6_q3 := X6.out.at_ 3 rfl
  have X6_s0 := X6.out.soft 0
  have X6_s1 := X6.out.soft 1
  have X6_s2 := X6.out.soft 2
  have X6_s3 := X6.out.soft 3
  cases b with
  | false =>
    have HEQ := Lib.hid (slotOf_form (r := r) (seq := seq) HBQ.out)
    go_wp2
    exact bodyPost_ret (v := foV (badF 1)) (by simp [results, Tryd.results28, go_sem, foV, badF, *]) rfl ⟨by rw [HEQ.out] <;> rfl, ((((HB0.out.setCell (p := ⟨W.heap.size + 1, 0, none⟩) (by show W.heap.size ≤ W.heap.size + 1; omega) _).setCell (p := ⟨W.heap.size + 1, 1, none⟩) (by show W.heap.size ≤ W.heap.size + 1; omega) _).setCell (p := ⟨W.heap.size + 1, 2, none⟩) (by show W.heap.size ≤ W.heap.size + 1; omega) _).setCell (p := ⟨W.heap.size + 1, 3, none⟩) (by show W.heap.size ≤ W.heap.size + 1; omega) _)⟩
  | true =>
    go_wp2_with fail
    refine (hasreg_b HB2.out hln).mono ?_
    rintro e v2 ⟨rfl, hb⟩
    clear XD_q0 XD_q1 X6_q0 X6_q1 X6_q2 X6_q3 X6_s0 X6_s1 X6_s2 X6_s3
    have XD := Lib.hid (XD.out.call hb)
    have X6 := Lib.hid (X6.out.call hb)
    have HR := Lib.hid (rdm R_Region_ok HR.out hb)
    have HDO := Lib.hid (HDO.out.below hb HDO.out.lt)
    have HB0 := Lib.hid (HB0.out.trans (hb.mono HB0.out.size))
    clear hb
    have XD_q0 := XD.out.at_ 0 rfl
    have XD_q1 := XD.out.at_ 1 rfl
    have X6_q0 := X6.out.at_ 0 rfl
    have X6_q1 := X6.out.at_ 1 rfl
    have X6_q2 := X6.out.at_ 2 rfl
    have X6_q3 := X6.out.at_ 3 rfl
    have X6_s0 := X6.out.soft 0
    have X6_s1 := X6.out.soft 1
    have X6_s2 := X6.out.soft 2
    have X6_s3 := X6.out.soft 3
    cases b2 with
    | false =>
      have HEQ := Lib.hid (slotOf_none (r := r) (seq := seq) HBQ.out (fun h => by have h2 := HB2.out; rw [show isB r 0 ((L.length : Int) - 1) = true from (isB_iff _ _ _).2 (by omega)] at h2; cases h2))
      go_wp2
      exact bodyPost_ret (v := foV (badF 6)) (by simp [results, Tryd.results28, go_sem, foV, badF, *]) rfl ⟨by rw [HEQ.out] <;> rfl, ((((HB0.out.setCell (p := ⟨W.heap.size + 1, 0, none⟩) (by show W.heap.size ≤ W.heap.size + 1; omega) _).setCell (p := ⟨W.heap.size + 1, 1, none⟩) (by show W.heap.size ≤ W.heap.size + 1; omega) _).setCell (p := ⟨W.heap.size + 1, 2, none⟩) (by show W.heap.size ≤ W.heap.size + 1; omega) _).setCell (p := ⟨W.heap.size + 1, 3, none⟩) (by show W.heap.size ≤ W.heap.size + 1; omega) _)⟩
    | true =>
      have hrr := (isB_iff _ _ _).1 HB2.out
      obtain ⟨k, rfl⟩ := Int.eq_ofNat_of_zero_le hrr.1
      obtain ⟨⟨x0, x1, x2⟩, hx⟩ := el_some (show k < L.length by omega)
      have hk2 : (k : Int) < (L.length : Int) := by omega
      have hk0 : (0 : Int) ≤ (k : Int) := Int.natCast_nonneg _
      have HEQ := Lib.hid ((slotOf_yes (seq := seq) HBQ.out hx).trans (ofR_held _ _))
      obtain ⟨g, o, rfl, hg, e0, e1, e2, b0, b1, b3⟩ := reg_at HR.out hx
      have HH := Lib.hid (held_i x0 x1 x2 seq _ b0 b1 HDO.out)
      obtain ⟨⟨⟨n, u⟩, bh⟩, hv⟩ : ∃ x, heldX (x0, x1, x2) seq = x := ⟨_, rfl⟩
      rw [hv] at HEQ HH
      simp only [tupF_mk] at HH
      clear hv hx hrr hg b0 b1 b3
      go_wp2_with fail
      refine (HH.out).mono ?_
      rintro e v3 ⟨rfl, hb⟩
      clear XD_q0 XD_q1 X6_q0 X6_q1 X6_q2 X6_q3 X6_s0 X6_s1 X6_s2 X6_s3
      clear e0 e1 e2
      have XD := Lib.hid (XD.out.call hb)
      have X6 := Lib.hid (X6.out.call hb)
      have HR := Lib.hid (rdm R_Region_ok HR.out hb)
      have HDO := Lib.hid (HDO.out.below hb HDO.out.lt)
      have HB0 := Lib.hid (HB0.out.trans (hb.mono HB0.out.size))
      clear hb
      obtain ⟨v4, hv4⟩ : ∃ V, V = v3.alloc (.cells #[.int .i64 n, .string u] 23) := ⟨_, rfl⟩
      have hb : Below v3.heap.size v3 v4 := by rw [hv4]; exact (Below.refl _ _).alloc (Nat.le_refl _) _
      have hq9 : Blk v4 v3.heap.size 23 #[.int .i64 n, .string u] := by rw [hv4]; exact Blk.new _ _ _
      have XD := Lib.hid (XD.out.call hb)
      have X6 := Lib.hid (X6.out.call hb)
      have HR := Lib.hid (rdm R_Region_ok HR.out hb)
      have HDO := Lib.hid (HDO.out.below hb HDO.out.lt)
      have HB0 := Lib.hid (HB0.out.trans (hb.mono HB0.out.size))
      have X7 := Lib.hid hq9
      clear hb hq9
      go_upto_region 6 with fail
      rw [← hv4]
      clear hv4
      have X7_q0 := X7.out.at_ 0 rfl
      have X7_q1 := X7.out.at_ 1 rfl
      have X6_q0 := X6.out.at_ 0 rfl
      have X6_q1 := X6.out.at_ 1 rfl
      have X6_q2 := X6.out.at_ 2 rfl
      have X6_q3 := X6.out.at_ 3 rfl
      have X6_s0 := X6.out.soft 0
      have X6_s1 := X6.out.soft 1
      have X6_s2 := X6.out.soft 2
      have X6_s3 := X6.out.soft 3
      cases bh with
      | false =>
        go_wp2
        exact bodyPost_ret (v := foV (badF 6)) (by simp [results, Tryd.results28, go_sem, foV, badF, *]) rfl ⟨by rw [HEQ.out] <;> rfl, ((((HB0.out.setCell (p := ⟨W.heap.size + 1, 0, none⟩) (by show W.heap.size ≤ W.heap.size + 1; omega) _).setCell (p := ⟨W.heap.size + 1, 1, none⟩) (by show W.heap.size ≤ W.heap.size + 1; omega) _).setCell (p := ⟨W.heap.size + 1, 2, none⟩) (by show W.heap.size ≤ W.heap.size + 1; omega) _).setCell (p := ⟨W.heap.size + 1, 3, none⟩) (by show W.heap.size ≤ W.heap.size + 1; omega) _)⟩
      | true =>
        go_wp2
        exact bodyPost_ret (v := foV ((n, u), 0, 0)) (by simp [results, Tryd.results28, go_sem, foV, badF, *]) rfl ⟨by rw [HEQ.out] <;> rfl, ((((HB0.out.setCell (p := ⟨W.heap.size + 1, 0, none⟩) (by show W.heap.size ≤ W.heap.size + 1; omega) _).setCell (p := ⟨W.heap.size + 1, 1, none⟩) (by show W.heap.size ≤ W.heap.size + 1; omega) _).setCell (p := ⟨W.heap.size + 1, 2, none⟩) (by show W.heap.size ≤ W.heap.size + 1; omega) _).setCell (p := ⟨W.heap.size + 1, 3, none⟩) (by show W.heap.size ≤ W.heap.size + 1; omega) _)⟩
end Go.Proofs.YtdedomfocljhaaaDoor.FrC
namespace Go.Proofs.YtdedomfocljhaaaDoor.RepC
open Go.RowKit RowC ValC SpanC KeptC
set_option linter.unusedVariables false
set_option linter.unusedSimpArgs false

theorem fo_new {x : FrC.FrO} {w : World} {e : Ending} {w' : World} (hs : x.1.2.size ≤ 2980) (h : e = .returned (FrC.foV x) ∧ Below w.heap.size w w') : NewV R_FrameOut x w e w' := by
  obtain ⟨⟨n, u⟩, q, c⟩ := x
  obtain ⟨rfl, hb⟩ := h
  exact ⟨[.int .i64 n, .string u, .int .i64 q, .int .i64 c], rfl, mkow_FrameOut (Nat.le_trans hs (by unfold maxLen; omega)), hb⟩
theorem so_size (d : D_Disk) (r seq : Int) : (FrC.slotOf d r seq).1.2.size ≤ 2980 := by
  have h0 : (ByteArray.mk #[]).size ≤ 2980 := by decide
  unfold FrC.slotOf
  split
  · split
    · split
      · unfold FrC.ofR
        split
        · exact FrC.slotR_size _
        · split
          · exact FrC.slotR_size _
          · exact h0
      · exact h0
    · exact h0
  · exact h0
theorem gso_spec {d : D_Disk} {cs : List Value} {r seq : Int} {W : World} (h : R_Disk.rd W W.heap.size d cs) : Calls Tryd.prog 27 #[.agg cs.toArray, .int .i64 r, .int .i64 seq] W (NewV R_FrameOut (FrC.slotOf d r seq) W) := by
  obtain ⟨L, p⟩ := d
  obtain ⟨a, c, rfl, k⟩ := rd_Disk h
  exact (FrC.slotof_s k).mono fun e w' h => fo_new (so_size _ _ _) h
theorem gso_impl {d : D_Disk} {cs : List Value} {r seq : Int} {W : World} (hD : GetC.Door W) (h : R_Disk.rd W W.heap.size d cs) : Calls Tryd.prog 28 #[.agg cs.toArray, .int .i64 r, .int .i64 seq] W (NewV R_FrameOut (FrC.slotOf d r seq) W) := by
  obtain ⟨L, p⟩ := d
  obtain ⟨a, c, rfl, k⟩ := rd_Disk h
  exact (FrC.slotof_i k hD).mono fun e w' h => fo_new (so_size _ _ _) h
theorem fo_small (d : D_FrameOut) : R_FrameOut.cv d ≤ 1048576 := by
  show 0 + 0 + (0 + 0) ≤ _
  omega
theorem sets_FrameOut {w : World} {g : Nat} {v0 v1 v2 v3 : Value} {t : TypeId} (h : Blk w g t #[.int .i64 0, .string ⟨#[]⟩, .int .i64 0, .int .i64 0]) : Blk ((((w.setCell ⟨g, 0, none⟩ v0).setCell ⟨g, 1, none⟩ v1).setCell ⟨g, 2, none⟩ v2).setCell ⟨g, 3, none⟩ v3) g t #[v0, v1, v2, v3] := Blk.as ((((h.set 0 v0).set 1 v1).set 2 v2).set 3 v3) (by kernel_rfl)
theorem soff_FrameOut (w : World) (g : Nat) (v0 v1 v2 v3 : Value) : Off (fun x => x = g) w ((((w.setCell ⟨g, 0, none⟩ v0).setCell ⟨g, 1, none⟩ v1).setCell ⟨g, 2, none⟩ v2).setCell ⟨g, 3, none⟩ v3) := (((((Off.refl (fun x => x = g) w).setCell (p := ⟨g, 0, none⟩) rfl v0).setCell (p := ⟨g, 1, none⟩) rfl v1).setCell (p := ⟨g, 2, none⟩) rfl v2).setCell (p := ⟨g, 3, none⟩) rfl v3)
end Go.Proofs.YtdedomfocljhaaaDoor.RepC
