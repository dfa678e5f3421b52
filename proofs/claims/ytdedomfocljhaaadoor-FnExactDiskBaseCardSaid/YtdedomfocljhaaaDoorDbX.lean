/- SoS, SoI, SoJ, DbP, DbI, DbS, DbG in one text. -/
import Derived.Test.YtdedomfocljhaaaDoorTk
import Derived.Test.YtdedomfocljhaaaDoorSoP
import Derived.Test.YtdedomfocljhaaaDoorTk
import Derived.Test.YtdedomfocljhaaaDoorDsGv
namespace Go.Proofs.YtdedomfocljhaaaDoor.FrC
open Go.RowKit PutM PutC JoinC SealC SpanC GetM GetC CrcC KeptC RepC ValC RowC
set_option linter.unusedVariables false
set_option linter.unusedSimpArgs false
set_option maxRecDepth 100000

set_option maxHeartbeats 1600000 in
theorem slot_s (t : ByteArray) (W : World) (ht : t.size ≤ maxLen) : Calls Tryd.prog 50 #[.string t] W fun e w' => e = .returned (foV (slotR t)) ∧ Below W.heap.size W w' := by
  have HF := Lib.hid (fun w => fread_s t 0 w ht (by omega))
  have HL := Lib.hid (slotR_long (t := t))
  have HA := Lib.hid (slotR_as (t := t))
  obtain ⟨⟨⟨n, u⟩, q, c⟩, hf⟩ : ∃ x, frR t 0 = x := ⟨_, rfl⟩
  rw [hf] at HF HL HA
  simp only [foV_mk] at HF
  unfold maxLen at ht
  clear hf
  obtain ⟨w0, hw0⟩ : ∃ w, w = W.alloc (.cells #[.int .i64 0, .string ⟨#[]⟩, .int .i64 0, .int .i64 0] 25) := ⟨_, rfl⟩
  have HB0 := Lib.hid (show Below W.heap.size W w0 from by rw [hw0]; exact (Below.refl _ _).alloc (Nat.le_refl _) _)
  have hq9 : Blk w0 W.heap.size 25 #[.int .i64 0, .string ⟨#[]⟩, .int .i64 0, .int .i64 0] := by
    have h9 := Blk.new W 25 #[.int .i64 0, .string ⟨#[]⟩, .int .i64 0, .int .i64 0]
    try simp only [World.size_alloc] at h9
    rw [hw0]
    exact h9
  have X1 := Lib.hid hq9
  clear hq9
  go_enter Tryd.func50, Tryd.ntmps50
  go_upto_region 1 with fail
  rw [← hw0]
  clear hw0
  go_wp2_with fail
  refine (HF.out _).mono ?_
  rintro e v1 ⟨rfl, hb⟩
  have X1 := Lib.hid (X1.out.call hb)
  have HB0 := Lib.hid (HB0.out.trans (hb.mono HB0.out.size))
  clear hb
  obtain ⟨v2, hv2⟩ : ∃ V, V = v1.alloc (.cells #[.int .i64 n, .string u, .int .i64 q, .int .i64 c] 25) := ⟨_, rfl⟩
  have hb : Below v1.heap.size v1 v2 := by rw [hv2]; exact (Below.refl _ _).alloc (Nat.le_refl _) _
  have hq9 : Blk v2 v1.heap.size 25 #[.int .i64 n, .string u, .int .i64 q, .int .i64 c] := by rw [hv2]; exact Blk.new _ _ _
  have X1 := Lib.hid (X1.out.call hb)
  have HB0 := Lib.hid (HB0.out.trans (hb.mono HB0.out.size))
  have X3 := Lib.hid hq9
  clear hb hq9
  go_upto_region 2 with fail
  rw [← hv2]
  clear hv2
  have X3_q0 := X3.out.at_ 0 rfl
  have X3_q1 := X3.out.at_ 1 rfl
  have X3_q2 := X3.out.at_ 2 rfl
  have X3_q3 := X3.out.at_ 3 rfl
  have X1_q0 := X1.out.at_ 0 rfl
  have X1_q1 := X1.out.at_ 1 rfl
  have X1_q2 := X1.out.at_ 2 rfl
  have X1_q3 := X1.out.at_ 3 rfl
  have X1_s0 := X1.out.soft 0
  have X1_s1 := X1.out.soft 1
  have X1_s2 := X1.out.soft 2
  have X1_s3 := X1.out.soft 3
  by_cases hc : c = 0
  rotate_left
  · have hcc : (c == 0) = false := by simpa using hc
    have HE := Lib.hid (HA.out (fun h => hc h.1))
    clear hc
    go_wp2
    exact bodyPost_ret (v := foV ((n, u), q, c)) (by simp [results, Tryd.results50, go_sem, foV, badF, *]) rfl ⟨by rw [HE.out], ((((HB0.out.setCell (p := ⟨W.heap.size, 0, none⟩) (by show W.heap.size ≤ W.heap.size; omega) _).setCell (p := ⟨W.heap.size, 1, none⟩) (by show W.heap.size ≤ W.heap.size; omega) _).setCell (p := ⟨W.heap.size, 2, none⟩) (by show W.heap.size ≤ W.heap.size; omega) _).setCell (p := ⟨W.heap.size, 3, none⟩) (by show W.heap.size ≤ W.heap.size; omega) _)⟩
  subst hc
  by_cases hq : q = (t.size : Int)
  rotate_left
  · have hcc : (q != (t.size : Int)) = true := by simpa using hq
    have HE := Lib.hid (HL.out ⟨rfl, hq⟩)
    clear hq
    go_wp2
    exact bodyPost_ret (v := foV (badF 3)) (by simp [results, Tryd.results50, go_sem, foV, badF, *]) rfl ⟨by rw [HE.out], ((((HB0.out.setCell (p := ⟨W.heap.size, 0, none⟩) (by show W.heap.size ≤ W.heap.size; omega) _).setCell (p := ⟨W.heap.size, 1, none⟩) (by show W.heap.size ≤ W.heap.size; omega) _).setCell (p := ⟨W.heap.size, 2, none⟩) (by show W.heap.size ≤ W.heap.size; omega) _).setCell (p := ⟨W.heap.size, 3, none⟩) (by show W.heap.size ≤ W.heap.size; omega) _)⟩
  have hcc : (q != (t.size : Int)) = false := by simpa using hq
  have HE := Lib.hid (HA.out (fun h => h.2 hq))
  clear hq
  go_wp2
  exact bodyPost_ret (v := foV ((n, u), q, 0)) (by simp [results, Tryd.results50, go_sem, foV, badF, *]) rfl ⟨by rw [HE.out], ((((HB0.out.setCell (p := ⟨W.heap.size, 0, none⟩) (by show W.heap.size ≤ W.heap.size; omega) _).setCell (p := ⟨W.heap.size, 1, none⟩) (by show W.heap.size ≤ W.heap.size; omega) _).setCell (p := ⟨W.heap.size, 2, none⟩) (by show W.heap.size ≤ W.heap.size; omega) _).setCell (p := ⟨W.heap.size, 3, none⟩) (by show W.heap.size ≤ W.heap.size; omega) _)⟩
set_option maxHeartbeats 1600000 in
theorem of_s {L : List D_Region} {p seq : Int} {a : Option Addr} {ca : Nat} {W : World} {k : Nat} {x0 x1 x2 : ByteArray} (hx : L[k]? = some (x0, x1, x2)) (hL : RdSl R_Region W W.heap.size L a ca) :
    Calls Tryd.prog 51 #[.agg #[.slice a L.length ca, .int .i64 p], .int .i64 k, .int .i64 seq] W fun e w' => e = .returned (foV (ofR (x0, x1, x2) seq)) ∧ Below W.heap.size W w' := by
  have HR := Lib.hid hL
  have hk := (List.getElem?_eq_some_iff.1 hx).1
  have hln : L.length ≤ 9223372036854775807 := by have h1 := hL.1; have h2 := hL.2.1; unfold maxLen at h2; omega
  have hk0 : (0 : Int) ≤ (k : Int) := Int.natCast_nonneg _
  have hk2 : (k : Int) < (L.length : Int) := by omega
  have HX := Lib.hid hx
  obtain ⟨g, o, rfl, hg, _, _, _, b0, b1, _⟩ := reg_at hL hx
  have HE := Lib.hid (fun w => slot_s x0 w b0)
  have HO := Lib.hid (fun w => slot_s x1 w b1)
  have HV0 := Lib.hid (ofR_even (x := (x0, x1, x2)) (seq := seq))
  have HV1 := Lib.hid (ofR_odd (x := (x0, x1, x2)) (seq := seq))
  have HV2 := Lib.hid (ofR_none (x := (x0, x1, x2)) (seq := seq))
  have HK0 := Lib.hid (show okS x0 seq = ((slotR x0).2.2 == 0 && (slotR x0).1.1 == seq) from rfl)
  have HK1 := Lib.hid (show okS x1 seq = ((slotR x1).2.2 == 0 && (slotR x1).1.1 == seq) from rfl)
  simp only at HV0 HV1 HV2
  obtain ⟨⟨⟨n0, u0⟩, q0, c0⟩, hf0⟩ : ∃ x, slotR x0 = x := ⟨_, rfl⟩
  obtain ⟨⟨⟨n1, u1⟩, q1, c1⟩, hf1⟩ : ∃ x, slotR x1 = x := ⟨_, rfl⟩
  rw [hf0] at HE HV0 HK0
  rw [hf1] at HO HV1 HK1
  simp only [foV_mk] at HE HO
  simp only at HK0 HK1
  clear hf0 hf1 hL hx hg b0 b1 hk
  obtain ⟨w0, hw0⟩ : ∃ w, w = (W.alloc (.cells #[.slice (some ⟨g, o, none⟩) L.length ca, .int .i64 p] 42)).alloc (.cells #[.int .i64 0, .string ⟨#[]⟩, .int .i64 0, .int .i64 0] 25) := ⟨_, rfl⟩
  have HB0 := Lib.hid (show Below W.heap.size W w0 from by rw [hw0]; exact ((Below.refl _ _).alloc (Nat.le_refl _) _).alloc (by simp) _)
  have hq9 : Blk w0 W.heap.size 42 #[.slice (some ⟨g, o, none⟩) L.length ca, .int .i64 p] := by
    have h9 := Blk.new W 42 #[.slice (some ⟨g, o, none⟩) L.length ca, .int .i64 p]
    try simp only [World.size_alloc] at h9
    rw [hw0]
    exact (h9.alloc _)
  have XD := Lib.hid hq9
  clear hq9
  have hq9 : Blk w0 (W.heap.size + 1) 25 #[.int .i64 0, .string ⟨#[]⟩, .int .i64 0, .int .i64 0] := by
    have h9 := Blk.new (W.alloc (.cells #[.slice (some ⟨g, o, none⟩) L.length ca, .int .i64 p] 42)) 25 #[.int .i64 0, .string ⟨#[]⟩, .int .i64 0, .int .i64 0]
    try simp only [World.size_alloc] at h9
    rw [hw0]
    exact h9
  have X6 := Lib.hid hq9
  clear hq9
  have HR := Lib.hid (rdm R_Region_ok HR.out HB0.out)
  go_enter Tryd.func51, Tryd.ntmps51
  go_upto_region 1 with fail
  rw [← hw0]
  clear hw0
  have XD_q0 := XD.out.at_ 0 rfl
  have XD_q1 := XD.out.at_ 1 rfl
  obtain ⟨g', o', he, _, e0, e1, _, _, _, _⟩ := reg_at HR.out HX.out
  cases he
  go_wp2_with fail
  refine (HE.out _).mono ?_
  rintro e v1 ⟨rfl, hb⟩
  clear XD_q0 XD_q1
  clear e0 e1
  have XD := Lib.hid (XD.out.call hb)
  have X6 := Lib.hid (X6.out.call hb)
  have HR := Lib.hid (rdm R_Region_ok HR.out hb)
  have HB0 := Lib.hid (HB0.out.trans (hb.mono HB0.out.size))
  clear hb
  have HLT7a := Lib.hid (show W.heap.size + 1 < v1.heap.size from X6.out.lt)
  obtain ⟨v2, hv2⟩ : ∃ V, V = v1.alloc (.cells #[.int .i64 n0, .string u0, .int .i64 q0, .int .i64 c0] 25) := ⟨_, rfl⟩
  have hb : Below v1.heap.size v1 v2 := by rw [hv2]; exact (Below.refl _ _).alloc (Nat.le_refl _) _
  have hq9 : Blk v2 v1.heap.size 25 #[.int .i64 n0, .string u0, .int .i64 q0, .int .i64 c0] := by rw [hv2]; exact Blk.new _ _ _
  have XD := Lib.hid (XD.out.call hb)
  have X6 := Lib.hid (X6.out.call hb)
  have HR := Lib.hid (rdm R_Region_ok HR.out hb)
  have HB0 := Lib.hid (HB0.out.trans (hb.mono HB0.out.size))
  have X7 := Lib.hid hq9
  clear hb hq9
  go_upto_region 2 with fail
  rw [← hv2]
  clear hv2
  have X7_q0 := X7.out.at_ 0 rfl
  have X7_q1 := X7.out.at_ 1 rfl
  have X7_q2 := X7.out.at_ 2 rfl
  have X7_q3 := X7.out.at_ 3 rfl
  have X6_q0 := X6.out.at_ 0 rfl
  have X6_q1 := X6.out.at_ 1 rfl
  have X6_q2 := X6.out.at_ 2 rfl
  have X6_q3 := X6.out.at_ 3 rfl
  have X6_s0 := X6.out.soft 0
  have X6_s1 := X6.out.soft 1
  have X6_s2 := X6.out.soft 2
  have X6_s3 := X6.out.soft 3
  have X7_s0 := X7.out.soft 0
  have X7_s1 := X7.out.soft 1
  have X7_s2 := X7.out.soft 2
  have X7_s3 := X7.out.soft 3
  by_cases h0 : c0 = 0 ∧ n0 = seq
  · obtain ⟨rfl, rfl⟩ := h0
    have HEQ := Lib.hid (HV0.out (by rw [HK0.out]; simp))
    have hs : (n0 != n0) = false := by simp
    go_wp2
    exact bodyPost_ret (v := foV ((n0, u0), 0, 0)) (by simp [results, Tryd.results51, go_sem, foV, badF, *]) rfl ⟨by rw [HEQ.out], ((((HB0.out.setCell (p := ⟨W.heap.size + 1, 0, none⟩) (by show W.heap.size ≤ W.heap.size + 1; omega) _).setCell (p := ⟨W.heap.size + 1, 1, none⟩) (by show W.heap.size ≤ W.heap.size + 1; omega) _).setCell (p := ⟨W.heap.size + 1, 2, none⟩) (by show W.heap.size ≤ W.heap.size + 1; omega) _).setCell (p := ⟨W.heap.size + 1, 3, none⟩) (by show W.heap.size ≤ W.heap.size + 1; omega) _)⟩
  have hk0b : okS x0 seq = false := by rw [HK0.out]; simp; omega
  have HN0 := Lib.hid hk0b
  clear hk0b
  have XD_q0 := XD.out.at_ 0 rfl
  have XD_q1 := XD.out.at_ 1 rfl
  obtain ⟨g', o', he, _, e0, e1, _, _, _, _⟩ := reg_at HR.out HX.out
  cases he
  have hcase : (c0 != 0) = true ∨ ((c0 != 0) = false ∧ (n0 != seq) = true) := by simp; omega
  clear h0
  have HLT7 := HLT7a
  rcases hcase with hc0 | ⟨hc0, hs0⟩
  · skip
    go_wp2_with fail
    refine (HO.out _).mono ?_
    rintro e v3 ⟨rfl, hb⟩
    clear X7_q0 X7_q1 X7_q2 X7_q3 X6_q0 X6_q1 X6_q2 X6_q3 X6_s0 X6_s1 X6_s2 X6_s3 X7_s0 X7_s1 X7_s2 X7_s3 XD_q0 XD_q1
    clear e0 e1
    have XD := Lib.hid (XD.out.call hb)
    have X6 := Lib.hid (X6.out.call hb)
    have X7 := Lib.hid (X7.out.call hb)
    have HR := Lib.hid (rdm R_Region_ok HR.out hb)
    have HB0 := Lib.hid (HB0.out.trans (hb.mono HB0.out.size))
    clear hb
    have hX7 := X7.out
    have X7_q0 := X7.out.at_ 0 rfl
    have X7_q1 := X7.out.at_ 1 rfl
    have X7_q2 := X7.out.at_ 2 rfl
    have X7_q3 := X7.out.at_ 3 rfl
    have X6_q0 := X6.out.at_ 0 rfl
    have X6_q1 := X6.out.at_ 1 rfl
    have X6_q2 := X6.out.at_ 2 rfl
    have X6_q3 := X6.out.at_ 3 rfl
    have X6_s0 := X6.out.soft 0
    have X6_s1 := X6.out.soft 1
    have X6_s2 := X6.out.soft 2
    have X6_s3 := X6.out.soft 3
    have X7_s0 := X7.out.soft 0
    have X7_s1 := X7.out.soft 1
    have X7_s2 := X7.out.soft 2
    have X7_s3 := X7.out.soft 3
    obtain ⟨w9, hw9⟩ : ∃ u, u = ((((v3.setCell ⟨v1.heap.size, 0, none⟩ (.int .i64 n1)).setCell ⟨v1.heap.size, 1, none⟩ (.string u1)).setCell ⟨v1.heap.size, 2, none⟩ (.int .i64 q1)).setCell ⟨v1.heap.size, 3, none⟩ (.int .i64 c1)) := ⟨_, rfl⟩
    have hlt := HLT7.out
    have hY7 : Blk w9 v1.heap.size 25 #[.int .i64 n1, .string u1, .int .i64 q1, .int .i64 c1] := by rw [hw9]; exact ((((X7.out.set 0 _).set 1 _).set 2 _).set 3 _).as rfl
    have hY6 : Blk w9 (W.heap.size + 1) 25 #[.int .i64 0, .string ⟨#[]⟩, .int .i64 0, .int .i64 0] := by rw [hw9]; exact (((X6.out.far (by omega) _).far (by omega) _).far (by omega) _).far (by omega) _
    have hb9 : Below W.heap.size W w9 := by rw [hw9]; exact below4 HB0.out (by omega) _ _ _ _
    go_upto_region 4 with fail
    rw [← hw9]
    clear hw9 hX7
    clear X7_q0 X7_q1 X7_q2 X7_q3 X6_q0 X6_q1 X6_q2 X6_q3 X6_s0 X6_s1 X6_s2 X6_s3 X7_s0 X7_s1 X7_s2 X7_s3
    have X7 := Lib.hid hY7
    have X6 := Lib.hid hY6
    have HB0 := Lib.hid hb9
    clear hY7 hY6 hb9
    have X7_q0 := X7.out.at_ 0 rfl
    have X7_q1 := X7.out.at_ 1 rfl
    have X7_q2 := X7.out.at_ 2 rfl
    have X7_q3 := X7.out.at_ 3 rfl
    have X6_q0 := X6.out.at_ 0 rfl
    have X6_q1 := X6.out.at_ 1 rfl
    have X6_q2 := X6.out.at_ 2 rfl
    have X6_q3 := X6.out.at_ 3 rfl
    have X6_s0 := X6.out.soft 0
    have X6_s1 := X6.out.soft 1
    have X6_s2 := X6.out.soft 2
    have X6_s3 := X6.out.soft 3
    by_cases h1 : c1 = 0 ∧ n1 = seq
    · obtain ⟨rfl, rfl⟩ := h1
      have HEQ := Lib.hid (HV1.out HN0.out (by rw [HK1.out]; simp))
      have hs1 : (n1 != n1) = false := by simp
      go_wp2
      exact bodyPost_ret (v := foV ((n1, u1), 0, 0)) (by simp [results, Tryd.results51, go_sem, foV, badF, *]) rfl ⟨by rw [HEQ.out], ((((HB0.out.setCell (p := ⟨W.heap.size + 1, 0, none⟩) (by show W.heap.size ≤ W.heap.size + 1; omega) _).setCell (p := ⟨W.heap.size + 1, 1, none⟩) (by show W.heap.size ≤ W.heap.size + 1; omega) _).setCell (p := ⟨W.heap.size + 1, 2, none⟩) (by show W.heap.size ≤ W.heap.size + 1; omega) _).setCell (p := ⟨W.heap.size + 1, 3, none⟩) (by show W.heap.size ≤ W.heap.size + 1; omega) _)⟩
    have hk1b : okS x1 seq = false := by rw [HK1.out]; simp; omega
    have HEQ := Lib.hid (HV2.out HN0.out hk1b)
    have hcase1 : (c1 != 0) = true ∨ ((c1 != 0) = false ∧ (n1 != seq) = true) := by simp; omega
    clear h1 hk1b
    rcases hcase1 with hc1 | ⟨hc1, hs1⟩
    · skip
      go_wp2
      exact bodyPost_ret (v := foV (badF 6)) (by simp [results, Tryd.results51, go_sem, foV, badF, *]) rfl ⟨by rw [HEQ.out], ((((HB0.out.setCell (p := ⟨W.heap.size + 1, 0, none⟩) (by show W.heap.size ≤ W.heap.size + 1; omega) _).setCell (p := ⟨W.heap.size + 1, 1, none⟩) (by show W.heap.size ≤ W.heap.size + 1; omega) _).setCell (p := ⟨W.heap.size + 1, 2, none⟩) (by show W.heap.size ≤ W.heap.size + 1; omega) _).setCell (p := ⟨W.heap.size + 1, 3, none⟩) (by show W.heap.size ≤ W.heap.size + 1; omega) _)⟩
    · skip
      go_wp2
      exact bodyPost_ret (v := foV (badF 6)) (by simp [results, Tryd.results51, go_sem, foV, badF, *]) rfl ⟨by rw [HEQ.out], ((((HB0.out.setCell (p := ⟨W.heap.size + 1, 0, none⟩) (by show W.heap.size ≤ W.heap.size + 1; omega) _).setCell (p := ⟨W.heap.size + 1, 1, none⟩) (by show W.heap.size ≤ W.heap.size + 1; omega) _).setCell (p := ⟨W.heap.size + 1, 2, none⟩) (by show W.heap.size ≤ W.heap.size + 1; omega) _).setCell (p := ⟨W.heap.size + 1, 3, none⟩) (by show W.heap.size ≤ W.heap.size + 1; omega) _)⟩
  · skip
    go_wp2_with fail
    refine (HO.out _).mono ?_
    rintro e v3 ⟨rfl, hb⟩
    clear X7_q0 X7_q1 X7_q2 X7_q3 X6_q0 X6_q1 X6_q2 X6_q3 X6_s0 X6_s1 X6_s2 X6_s3 X7_s0 X7_s1 X7_s2 X7_s3 XD_q0 XD_q1
    clear e0 e1
    have XD := Lib.hid (XD.out.call hb)
    have X6 := Lib.hid (X6.out.call hb)
    have X7 := Lib.hid (X7.out.call hb)
    have HR := Lib.hid (rdm R_Region_ok HR.out hb)
    have HB0 := Lib.hid (HB0.out.trans (hb.mono HB0.out.size))
    clear hb
    have hX7 := X7.out
    have X7_q0 := X7.out.at_ 0 rfl
    have X7_q1 := X7.out.at_ 1 rfl
    have X7_q2 := X7.out.at_ 2 rfl
    have X7_q3 := X7.out.at_ 3 rfl
    have X6_q0 := X6.out.at_ 0 rfl
    have X6_q1 := X6.out.at_ 1 rfl
    have X6_q2 := X6.out.at_ 2 rfl
    have X6_q3 := X6.out.at_ 3 rfl
    have X6_s0 := X6.out.soft 0
    have X6_s1 := X6.out.soft 1
    have X6_s2 := X6.out.soft 2
    have X6_s3 := X6.out.soft 3
    have X7_s0 := X7.out.soft 0
    have X7_s1 := X7.out.soft 1
    have X7_s2 := X7.out.soft 2
    have X7_s3 := X7.out.soft 3
    obtain ⟨w9, hw9⟩ : ∃ u, u = ((((v3.setCell ⟨v1.heap.size, 0, none⟩ (.int .i64 n1)).setCell ⟨v1.heap.size, 1, none⟩ (.string u1)).setCell ⟨v1.heap.size, 2, none⟩ (.int .i64 q1)).setCell ⟨v1.heap.size, 3, none⟩ (.int .i64 c1)) := ⟨_, rfl⟩
    have hlt := HLT7.out
    have hY7 : Blk w9 v1.heap.size 25 #[.int .i64 n1, .string u1, .int .i64 q1, .int .i64 c1] := by rw [hw9]; exact ((((X7.out.set 0 _).set 1 _).set 2 _).set 3 _).as rfl
    have hY6 : Blk w9 (W.heap.size + 1) 25 #[.int .i64 0, .string ⟨#[]⟩, .int .i64 0, .int .i64 0] := by rw [hw9]; exact (((X6.out.far (by omega) _).far (by omega) _).far (by omega) _).far (by omega) _
    have hb9 : Below W.heap.size W w9 := by rw [hw9]; exact below4 HB0.out (by omega) _ _ _ _
    go_upto_region 4 with fail
    rw [← hw9]
    clear hw9 hX7
    clear X7_q0 X7_q1 X7_q2 X7_q3 X6_q0 X6_q1 X6_q2 X6_q3 X6_s0 X6_s1 X6_s2 X6_s3 X7_s0 X7_s1 X7_s2 X7_s3
    have X7 := Lib.hid hY7
    have X6 := Lib.hid hY6
    have HB0 := Lib.hid hb9
    clear hY7 hY6 hb9
    have X7_q0 := X7.out.at_ 0 rfl
    have X7_q1 := X7.out.at_ 1 rfl
    have X7_q2 := X7.out.at_ 2 rfl
    have X7_q3 := X7.out.at_ 3 rfl
    have X6_q0 := X6.out.at_ 0 rfl
    have X6_q1 := X6.out.at_ 1 rfl
    have X6_q2 := X6.out.at_ 2 rfl
    have X6_q3 := X6.out.at_ 3 rfl
    have X6_s0 := X6.out.soft 0
    have X6_s1 := X6.out.soft 1
    have X6_s2 := X6.out.soft 2
    have X6_s3 := X6.out.soft 3
    by_cases h1 : c1 = 0 ∧ n1 = seq
    · obtain ⟨rfl, rfl⟩ := h1
      have HEQ := Lib.hid (HV1.out HN0.out (by rw [HK1.out]; simp))
      have hs1 : (n1 != n1) = false := by simp
      go_wp2
      exact bodyPost_ret (v := foV ((n1, u1), 0, 0)) (by simp [results, Tryd.results51, go_sem, foV, badF, *]) rfl ⟨by rw [HEQ.out], ((((HB0.out.setCell (p := ⟨W.heap.size + 1, 0, none⟩) (by show W.heap.size ≤ W.heap.size + 1; omega) _).setCell (p := ⟨W.heap.size + 1, 1, none⟩) (by show W.heap.size ≤ W.heap.size + 1; omega) _).setCell (p := ⟨W.heap.size + 1, 2, none⟩) (by show W.heap.size ≤ W.heap.size + 1; omega) _).setCell (p := ⟨W.heap.size + 1, 3, none⟩) (by show W.heap.size ≤ W.heap.size + 1; omega) _)⟩
    have hk1b : okS x1 seq = false := by rw [HK1.out]; simp; omega
    have HEQ := Lib.hid (HV2.out HN0.out hk1b)
    have hcase1 : (c1 != 0) = true ∨ ((c1 != 0) = false ∧ (n1 != seq) = true) := by simp; omega
    clear h1 hk1b
    rcases hcase1 with hc1 | ⟨hc1, hs1⟩
    · skip
      go_wp2
      exact bodyPost_ret (v := foV (badF 6)) (by simp [results, Tryd.results51, go_sem, foV, badF, *]) rfl ⟨by rw [HEQ.out], ((((HB0.out.setCell (p := ⟨W.heap.size + 1, 0, none⟩) (by show W.heap.size ≤ W.heap.size + 1; omega) _).setCell (p := ⟨W.heap.size + 1, 1, none⟩) (by show W.heap.size ≤ W.heap.size + 1; omega) _).setCell (p := ⟨W.heap.size + 1, 2, none⟩) (by show W.heap.size ≤ W.heap.size + 1; omega) _).setCell (p := ⟨W.heap.size + 1, 3, none⟩) (by show W.heap.size ≤ W.heap.size + 1; omega) _)⟩
    · skip
      go_wp2
      exact bodyPost_ret (v := foV (badF 6)) (by simp [results, Tryd.results51, go_sem, foV, badF, *]) rfl ⟨by rw [HEQ.out], ((((HB0.out.setCell (p := ⟨W.heap.size + 1, 0, none⟩) (by show W.heap.size ≤ W.heap.size + 1; omega) _).setCell (p := ⟨W.heap.size + 1, 1, none⟩) (by show W.heap.size ≤ W.heap.size + 1; omega) _).setCell (p := ⟨W.heap.size + 1, 2, none⟩) (by show W.heap.size ≤ W.heap.size + 1; omega) _).setCell (p := ⟨W.heap.size + 1, 3, none⟩) (by show W.heap.size ≤ W.heap.size + 1; omega) _)⟩
theorem disk_sb {L : List D_Region} {p : Int} {a : Option Addr} {c : Nat} {W : World} {b : Bool} (hb : diskB L p = b) (h : RdSl R_Region W W.heap.size L a c) : Calls Tryd.prog 49 #[.agg #[.slice a L.length c, .int .i64 p]] W fun e w' => e = .returned (.bool b) ∧ Below W.heap.size W w' := by
  subst hb
  exact (disk_s h).mono fun e w' h => resB_is diskB_iff h
theorem disk_ib {L : List D_Region} {p : Int} {a : Option Addr} {c : Nat} {W : World} {b : Bool} (hb : diskB L p = b) (h : RdSl R_Region W W.heap.size L a c) : Calls Tryd.prog 53 #[.agg #[.slice a L.length c, .int .i64 p]] W fun e w' => e = .returned (.bool b) ∧ Below W.heap.size W w' := by
  subst hb
  exact (disk_i h).mono fun e w' h => resB_is diskB_iff h
set_option maxHeartbeats 1600000 in
theorem slotof_s {L : List D_Region} {p r seq : Int} {a : Option Addr} {ca : Nat} {W : World} (hL : RdSl R_Region W W.heap.size L a ca) :
    Calls Tryd.prog 27 #[.agg #[.slice a L.length ca, .int .i64 p], .int .i64 r, .int .i64 seq] W fun e w' => e = .returned (foV (slotOf (L, p) r seq)) ∧ Below W.heap.size W w' := by
  have HR := Lib.hid hL
  have hln : L.length ≤ 9223372036854775807 := by have h1 := hL.1; have h2 := hL.2.1; unfold maxLen at h2; omega
  obtain ⟨b, hb⟩ : ∃ b, diskB L p = b := ⟨_, rfl⟩
  have HBQ := Lib.hid hb
  clear hL hb
  obtain ⟨w0, hw0⟩ : ∃ w, w = (W.alloc (.cells #[.slice a L.length ca, .int .i64 p] 42)).alloc (.cells #[.int .i64 0, .string ⟨#[]⟩, .int .i64 0, .int .i64 0] 25) := ⟨_, rfl⟩
  have HB0 := Lib.hid (show Below W.heap.size W w0 from by rw [hw0]; exact ((Below.refl _ _).alloc (Nat.le_refl _) _).alloc (by simp) _)
  have hq9 : Blk w0 W.heap.size 42 #[.slice a L.length ca, .int .i64 p] := by
    have h9 := Blk.new W 42 #[.slice a L.length ca, .int .i64 p]
    try simp only [World.size_alloc] at h9
    rw [hw0]
    exact (h9.alloc _)
  have XD := Lib.hid hq9
  clear hq9
  have hq9 : Blk w0 (W.heap.size + 1) 25 #[.int .i64 0, .string ⟨#[]⟩, .int .i64 0, .int .i64 0] := by
    have h9 := Blk.new (W.alloc (.cells #[.slice a L.length ca, .int .i64 p] 42)) 25 #[.int .i64 0, .string ⟨#[]⟩, .int .i64 0, .int .i64 0]
    try simp only [World.size_alloc] at h9
    rw [hw0]
    exact h9
  have X6 := Lib.hid hq9
  clear hq9
  have HR := Lib.hid (rdm R_Region_ok HR.out HB0.out)
  go_enter Tryd.func27, Tryd.ntmps27
  go_upto_region 1 with fail
  rw [← hw0]
  clear hw0
  have XD_q0 := XD.out.at_ 0 rfl
  have XD_q1 := XD.out.at_ 1 rfl
  go_wp2_with fail
  refine (disk_sb HBQ.out HR.out).mono ?_
  rintro e v1 ⟨rfl, hb⟩
  clear XD_q0 XD_q1
  have XD := Lib.hid (XD.out.call hb)
  have X6 := Lib.hid (X6.out.call hb)
  have HR := Lib.hid (rdm R_Region_ok HR.out hb)
  have HB0 := Lib.hid (HB0.out.trans (hb.mono HB0.out.size))
  clear hb
  have XD_q0 := XD.out.at_ 0 rfl
  have XD_q1 := XD.out.at_ 1 rfl
  have X6_q0 := X6.out.at_ 0 rfl
  have X6_q1 := X6.out.at_ 1 rfl
  have X6_q2 := X6.out.at_ 2 rfl
  have X6_q3 := X6.out.at_ 3 rfl
  have X6_s0 := X6.out.soft 0
  have X6_s1 := X6.out.soft 1
  have X6_s2 := X6.out.soft 2
  have X6_s3 := X6.out.soft 3
  cases b with
  | false =>
    have HEQ := Lib.hid (slotOf_form (r := r) (seq := seq) HBQ.out)
    go_wp2
    exact bodyPost_ret (v := foV (badF 1)) (by simp [results, Tryd.results27, go_sem, foV, badF, *]) rfl ⟨by rw [HEQ.out], ((((HB0.out.setCell (p := ⟨W.heap.size + 1, 0, none⟩) (by show W.heap.size ≤ W.heap.size + 1; omega) _).setCell (p := ⟨W.heap.size + 1, 1, none⟩) (by show W.heap.size ≤ W.heap.size + 1; omega) _).setCell (p := ⟨W.heap.size + 1, 2, none⟩) (by show W.heap.size ≤ W.heap.size + 1; omega) _).setCell (p := ⟨W.heap.size + 1, 3, none⟩) (by show W.heap.size ≤ W.heap.size + 1; omega) _)⟩
  | true =>
    by_cases h0 : 0 ≤ r
    rotate_left
    · have hd0 : decide (r < 0) = true := decide_eq_true (by omega)
      have HEQ := Lib.hid (slotOf_none (seq := seq) HBQ.out (fun h => h0 h.1))
      clear h0
      go_wp2
      exact bodyPost_ret (v := foV (badF 6)) (by simp [results, Tryd.results27, go_sem, foV, badF, *]) rfl ⟨by rw [HEQ.out], ((((HB0.out.setCell (p := ⟨W.heap.size + 1, 0, none⟩) (by show W.heap.size ≤ W.heap.size + 1; omega) _).setCell (p := ⟨W.heap.size + 1, 1, none⟩) (by show W.heap.size ≤ W.heap.size + 1; omega) _).setCell (p := ⟨W.heap.size + 1, 2, none⟩) (by show W.heap.size ≤ W.heap.size + 1; omega) _).setCell (p := ⟨W.heap.size + 1, 3, none⟩) (by show W.heap.size ≤ W.heap.size + 1; omega) _)⟩
    have hd0 : decide (r < 0) = false := decide_eq_false (by omega)
    by_cases h1 : r < (L.length : Int)
    rotate_left
    · have hd1 : decide ((L.length : Int) ≤ r) = true := decide_eq_true (by omega)
      have HEQ := Lib.hid (slotOf_none (seq := seq) HBQ.out (fun h => h1 h.2))
      clear h1
      go_wp2
      exact bodyPost_ret (v := foV (badF 6)) (by simp [results, Tryd.results27, go_sem, foV, badF, *]) rfl ⟨by rw [HEQ.out], ((((HB0.out.setCell (p := ⟨W.heap.size + 1, 0, none⟩) (by show W.heap.size ≤ W.heap.size + 1; omega) _).setCell (p := ⟨W.heap.size + 1, 1, none⟩) (by show W.heap.size ≤ W.heap.size + 1; omega) _).setCell (p := ⟨W.heap.size + 1, 2, none⟩) (by show W.heap.size ≤ W.heap.size + 1; omega) _).setCell (p := ⟨W.heap.size + 1, 3, none⟩) (by show W.heap.size ≤ W.heap.size + 1; omega) _)⟩
    have hd1 : decide ((L.length : Int) ≤ r) = false := decide_eq_false (by omega)
    obtain ⟨k, rfl⟩ := Int.eq_ofNat_of_zero_le h0
    have hdn : ¬ L.length ≤ k := by omega
    obtain ⟨⟨x0, x1, x2⟩, hx⟩ := el_some (show k < L.length by omega)
    have HEQ := Lib.hid (slotOf_yes (seq := seq) HBQ.out hx)
    have HOF := Lib.hid (of_s (p := p) (seq := seq) hx HR.out)
    obtain ⟨⟨⟨n, u⟩, q, c⟩, hf⟩ : ∃ x, ofR (x0, x1, x2) seq = x := ⟨_, rfl⟩
    rw [hf] at HEQ HOF
    simp only [foV_mk] at HOF
    clear hf hx h0 h1
    go_wp2_with fail
    refine (HOF.out).mono ?_
    rintro e v2 ⟨rfl, hb⟩
    clear XD_q0 XD_q1 X6_q0 X6_q1 X6_q2 X6_q3 X6_s0 X6_s1 X6_s2 X6_s3
    have XD := Lib.hid (XD.out.call hb)
    have X6 := Lib.hid (X6.out.call hb)
    have HR := Lib.hid (rdm R_Region_ok HR.out hb)
    have HB0 := Lib.hid (HB0.out.trans (hb.mono HB0.out.size))
    clear hb
    have X6_q0 := X6.out.at_ 0 rfl
    have X6_q1 := X6.out.at_ 1 rfl
    have X6_q2 := X6.out.at_ 2 rfl
    have X6_q3 := X6.out.at_ 3 rfl
    have X6_s0 := X6.out.soft 0
    have X6_s1 := X6.out.soft 1
    have X6_s2 := X6.out.soft 2
    have X6_s3 := X6.out.soft 3
    go_wp2
    exact bodyPost_ret (v := foV ((n, u), q, c)) (by simp [results, Tryd.results27, go_sem, foV, badF, *]) rfl ⟨by rw [HEQ.out], ((((HB0.out.setCell (p := ⟨W.heap.size + 1, 0, none⟩) (by show W.heap.size ≤ W.heap.size + 1; omega) _).setCell (p := ⟨W.heap.size + 1, 1, none⟩) (by show W.heap.size ≤ W.heap.size + 1; omega) _).setCell (p := ⟨W.heap.size + 1, 2, none⟩) (by show W.heap.size ≤ W.heap.size + 1; omega) _).setCell (p := ⟨W.heap.size + 1, 3, none⟩) (by show W.heap.size ≤ W.heap.size + 1; omega) _)⟩
end Go.Proofs.YtdedomfocljhaaaDoor.FrC
namespace Go.Proofs.YtdedomfocljhaaaDoor.FrC
open Go.RowKit PutM PutC JoinC SealC SpanC GetM GetC CrcC KeptC RepC ValC RowC
set_option linter.unusedVariables false
set_option linter.unusedSimpArgs false
set_option maxRecDepth 100000

/-- heldBy's answer -/
def heldV (t : ByteArray) : (Int × ByteArray) × Bool := if (slotR t).2.2 = 0 then ((slotR t).1, true) else ((0, { data := #[] }), false)
theorem heldV_yes {t : ByteArray} {n q : Int} {u : ByteArray} (h : frR t 0 = ((n, u), q, 0)) (h2 : q = t.size) : heldV t = ((n, u), true) := by
  have e : slotR t = ((n, u), q, 0) := by rw [slotR_as (by rw [h]; simp [h2]), h]
  unfold heldV
  rw [e]
  rfl
theorem heldV_no {t : ByteArray} {n q c : Int} {u : ByteArray} (h : frR t 0 = ((n, u), q, c)) (h2 : ¬ (c = 0 ∧ q = t.size)) : heldV t = ((0, { data := #[] }), false) := by
  unfold heldV
  rw [if_neg]
  by_cases hc : c = 0
  · rw [slotR_long (by rw [h]; exact ⟨hc, fun e => h2 ⟨hc, e⟩⟩)]
    decide
  · rw [slotR_as (by rw [h]; exact fun e => hc e.1), h]
    exact hc
def tupF (x : (Int × ByteArray) × Bool) : Value := .tuple #[.agg #[.int .i64 x.1.1, .string x.1.2], .bool x.2]
theorem tupF_mk (n : Int) (u : ByteArray) (b : Bool) : tupF ((n, u), b) = .tuple #[.agg #[.int .i64 n, .string u], .bool b] := rfl
def slN (x0 x1 : ByteArray) : Nat → ByteArray
  | 0 => x0
  | _ => x1
/-- held's answer -/
def heldX (x : D_Region) (seq : Int) : (Int × ByteArray) × Bool := if okS x.1 seq = true then ((slotR x.1).1, true) else if okS x.2.1 seq = true then ((slotR x.2.1).1, true) else ((0, { data := #[] }), false)
theorem heldX_at {x0 x1 x2 : ByteArray} {seq : Int} {k : Nat} (hk : k < 2) (h : ∀ j, j < k → okS (slN x0 x1 j) seq = false) (h1 : okS (slN x0 x1 k) seq = true) : heldX (x0, x1, x2) seq = ((slotR (slN x0 x1 k)).1, true) := by
  unfold heldX
  rcases (show k = 0 ∨ k = 1 by omega) with rfl | rfl
  · exact if_pos h1
  · have h0 : okS x0 seq = false := h 0 (by omega)
    rw [if_neg (by simp [h0])]
    exact if_pos h1
theorem heldX_none {x0 x1 x2 : ByteArray} {seq : Int} (h : ∀ j, j < 2 → okS (slN x0 x1 j) seq = false) : heldX (x0, x1, x2) seq = ((0, { data := #[] }), false) := by
  have h0 : okS x0 seq = false := h 0 (by omega)
  have h1 : okS x1 seq = false := h 1 (by omega)
  unfold heldX
  rw [if_neg (by simp [h0]), if_neg (by simp [h1])]
theorem okS_held {t : ByteArray} {seq n : Int} {u : ByteArray} {b : Bool} (h : heldV t = ((n, u), b)) : okS t seq = (b && (n == seq)) ∧ (b = true → (slotR t).1 = (n, u)) := by
  unfold heldV at h
  split at h
  · rename_i hc
    simp only [Prod.mk.injEq] at h
    obtain ⟨h1, rfl⟩ := h
    unfold okS
    rw [hc, h1]
    exact ⟨by simp, fun _ => rfl⟩
  · rename_i hc
    simp only [Prod.mk.injEq] at h
    obtain ⟨⟨rfl, rfl⟩, rfl⟩ := h
    unfold okS
    exact ⟨by simp [hc], fun e => by cases e⟩
theorem heldV_size {t : ByteArray} {n : Int} {u : ByteArray} {b : Bool} (h : heldV t = ((n, u), b)) : u.size ≤ 2980 := by
  unfold heldV at h
  split at h
  · simp only [Prod.mk.injEq] at h
    have := slotR_size t
    rw [h.1] at this
    exact this
  · simp only [Prod.mk.injEq] at h
    obtain ⟨⟨_, rfl⟩, _⟩ := h
    show (ByteArray.mk #[]).size ≤ 2980
    decide
set_option maxHeartbeats 1600000 in
theorem heldby_i (t : ByteArray) (W : World) (ht : t.size ≤ maxLen) (hD : Door W) : Calls Tryd.prog 55 #[.string t] W fun e w' => e = .returned (tupF (heldV t)) ∧ Below W.heap.size W w' := by
  have HF := Lib.hid (fun w hw => fread_i t 0 w ht (by omega) hw)
  have HY := Lib.hid (fun n q u => heldV_yes (t := t) (n := n) (q := q) (u := u))
  have HN := Lib.hid (fun n q c u => heldV_no (t := t) (n := n) (q := q) (c := c) (u := u))
  have hok := frR_ok (s := t) (a := 0)
  obtain ⟨⟨⟨n, u⟩, q, c⟩, hf⟩ : ∃ x, frR t 0 = x := ⟨_, rfl⟩
  rw [hf] at HF hok
  simp only [foV_mk] at HF
  have HFR := Lib.hid hf
  have hqs : c = 0 → q ≤ t.size := fun h => (hok h).2.2.1
  have HD := Lib.hid hD
  unfold maxLen at ht
  clear hf hok hD
  obtain ⟨w0, hw0⟩ : ∃ w, w = W.alloc (.cells #[.int .i64 0, .string ⟨#[]⟩] 23) := ⟨_, rfl⟩
  have HB0 := Lib.hid (show Below W.heap.size W w0 from by rw [hw0]; exact (Below.refl _ _).alloc (Nat.le_refl _) _)
  have hq9 : Blk w0 W.heap.size 23 #[.int .i64 0, .string ⟨#[]⟩] := by
    have h9 := Blk.new W 23 #[.int .i64 0, .string ⟨#[]⟩]
    try simp only [World.size_alloc] at h9
    rw [hw0]
    exact h9
  have X2 := Lib.hid hq9
  clear hq9
  have HDO := Lib.hid (HD.out.below HB0.out HD.out.lt)
  go_enter Tryd.func55, Tryd.ntmps55
  go_upto_region 1 with fail
  rw [← hw0]
  clear hw0
  go_wp2_with fail
  refine (HF.out _ HDO.out).mono ?_
  rintro e v1 ⟨rfl, hb⟩
  have X2 := Lib.hid (X2.out.call hb)
  have HDO := Lib.hid (HDO.out.below hb HDO.out.lt)
  have HB0 := Lib.hid (HB0.out.trans (hb.mono HB0.out.size))
  clear hb
  obtain ⟨v2, hv2⟩ : ∃ V, V = v1.alloc (.cells #[.int .i64 n, .string u, .int .i64 q, .int .i64 c] 25) := ⟨_, rfl⟩
  have hb : Below v1.heap.size v1 v2 := by rw [hv2]; exact (Below.refl _ _).alloc (Nat.le_refl _) _
  have hq9 : Blk v2 v1.heap.size 25 #[.int .i64 n, .string u, .int .i64 q, .int .i64 c] := by rw [hv2]; exact Blk.new _ _ _
  have X2 := Lib.hid (X2.out.call hb)
  have HDO := Lib.hid (HDO.out.below hb HDO.out.lt)
  have HB0 := Lib.hid (HB0.out.trans (hb.mono HB0.out.size))
  have X4 := Lib.hid hq9
  clear hb hq9
  go_upto_region 2 with fail
  rw [← hv2]
  clear hv2
  have X4_q0 := X4.out.at_ 0 rfl
  have X4_q1 := X4.out.at_ 1 rfl
  have X4_q2 := X4.out.at_ 2 rfl
  have X4_q3 := X4.out.at_ 3 rfl
  have X2_q0 := X2.out.at_ 0 rfl
  have X2_q1 := X2.out.at_ 1 rfl
  have X2_s0 := X2.out.soft 0
  have X2_s1 := X2.out.soft 1
  by_cases hc : c = 0
  rotate_left
  · have hcc : (c != 0) = true := by simpa using hc
    have HE := Lib.hid (HN.out _ _ _ _ HFR.out (fun h => hc h.1))
    clear hc hqs
    go_wp2
    exact bodyPost_ret (v := .tuple #[.agg #[.int .i64 0, .string ⟨#[]⟩], .bool false]) (by simp [results, Tryd.results55, go_sem, *]) rfl ⟨by rw [HE.out] <;> rfl, ((HB0.out.setCell (p := ⟨W.heap.size, 0, none⟩) (by show W.heap.size ≤ W.heap.size; omega) _).setCell (p := ⟨W.heap.size, 1, none⟩) (by show W.heap.size ≤ W.heap.size; omega) _)⟩
  subst hc
  have hq2 := hqs rfl
  by_cases hq : q = (t.size : Int)
  rotate_left
  · have hcc : decide (q < (t.size : Int)) = true := decide_eq_true (by omega)
    have HE := Lib.hid (HN.out _ _ _ _ HFR.out (fun h => hq h.2))
    clear hq hqs
    go_wp2
    exact bodyPost_ret (v := .tuple #[.agg #[.int .i64 0, .string ⟨#[]⟩], .bool false]) (by simp [results, Tryd.results55, go_sem, *]) rfl ⟨by rw [HE.out] <;> rfl, ((HB0.out.setCell (p := ⟨W.heap.size, 0, none⟩) (by show W.heap.size ≤ W.heap.size; omega) _).setCell (p := ⟨W.heap.size, 1, none⟩) (by show W.heap.size ≤ W.heap.size; omega) _)⟩
  have hcc : decide (q < (t.size : Int)) = false := decide_eq_false (by omega)
  have HE := Lib.hid (HY.out _ _ _ HFR.out hq)
  clear hq hqs hq2
  go_wp2
  exact bodyPost_ret (v := .tuple #[.agg #[.int .i64 n, .string u], .bool true]) (by simp [results, Tryd.results55, go_sem, *]) rfl ⟨by rw [HE.out] <;> rfl, ((HB0.out.setCell (p := ⟨W.heap.size, 0, none⟩) (by show W.heap.size ≤ W.heap.size; omega) _).setCell (p := ⟨W.heap.size, 1, none⟩) (by show W.heap.size ≤ W.heap.size; omega) _)⟩
set_option maxHeartbeats 1600000 in
theorem slots_i (x0 x1 x2 : ByteArray) (W : World) : Calls Tryd.prog 54 #[.agg #[.string x0, .string x1, .string x2]] W fun e w' => ∃ g, e = .returned (.slice (some ⟨g, 0, none⟩) 2 2) ∧ Blk w' g 9 #[.string x0, .string x1] ∧ Below W.heap.size W w' := by
  obtain ⟨w0, hw0⟩ : ∃ w, w = W.alloc (.cells #[.string x0, .string x1, .string x2] 70) := ⟨_, rfl⟩
  have HB0 := Lib.hid (show Below W.heap.size W w0 from by rw [hw0]; exact (Below.refl _ _).alloc (Nat.le_refl _) _)
  have X := Lib.hid (show Blk w0 W.heap.size 70 #[.string x0, .string x1, .string x2] from by rw [hw0]; exact Blk.new _ _ _)
  have q0 := X.out.at_ 0 rfl
  have q1 := X.out.at_ 1 rfl
  go_enter Tryd.func54, Tryd.ntmps54
  go_upto_region 1 with fail
  rw [← hw0]
  clear hw0
  go_wp2
  go_ret
  exact ⟨_, rfl, Blk.new _ _ _, HB0.out.alloc HB0.out.size _⟩
set_option maxHeartbeats 3200000 in
theorem held_i (x0 x1 x2 : ByteArray) (seq : Int) (W : World) (h0 : x0.size ≤ maxLen) (h1 : x1.size ≤ maxLen) (hD : Door W) : Calls Tryd.prog 58 #[.agg #[.string x0, .string x1, .string x2], .int .i64 seq] W fun e w' => e = .returned (tupF (heldX (x0, x1, x2) seq)) ∧ Below W.heap.size W w' := by
  have HD := Lib.hid hD
  have HSZ := Lib.hid (show ∀ k, (slN x0 x1 k).size ≤ maxLen from fun k => by cases k <;> assumption)
  have HAT := Lib.hid (fun k => heldX_at (x0 := x0) (x1 := x1) (x2 := x2) (seq := seq) (k := k))
  have HNO := Lib.hid (heldX_none (x0 := x0) (x1 := x1) (x2 := x2) (seq := seq))
  clear hD h0 h1
  obtain ⟨w0, hw0⟩ : ∃ w, w = (W.alloc (.cells #[.string x0, .string x1, .string x2] 70)).alloc (.cells #[.int .i64 0, .string ⟨#[]⟩] 23) := ⟨_, rfl⟩
  have HB0 := Lib.hid (show Below W.heap.size W w0 from by rw [hw0]; exact ((Below.refl _ _).alloc (Nat.le_refl _) _).alloc (by simp) _)
  have hq9 : Blk w0 W.heap.size 70 #[.string x0, .string x1, .string x2] := by
    have h9 := Blk.new W 70 #[.string x0, .string x1, .string x2]
    try simp only [World.size_alloc] at h9
    rw [hw0]
    exact (h9.alloc _)
  have XR := Lib.hid hq9
  clear hq9
  have hq9 : Blk w0 (W.heap.size + 1) 23 #[.int .i64 0, .string ⟨#[]⟩] := by
    have h9 := Blk.new (W.alloc (.cells #[.string x0, .string x1, .string x2] 70)) 23 #[.int .i64 0, .string ⟨#[]⟩]
    try simp only [World.size_alloc] at h9
    rw [hw0]
    exact h9
  have X4 := Lib.hid hq9
  clear hq9
  have HDO := Lib.hid (HD.out.below HB0.out HD.out.lt)
  go_enter Tryd.func58, Tryd.ntmps58
  go_upto_region 1 with fail
  rw [← hw0]
  clear hw0
  have XR_q0 := XR.out.at_ 0 rfl
  have XR_q1 := XR.out.at_ 1 rfl
  have XR_q2 := XR.out.at_ 2 rfl
  go_wp2_with fail
  refine (slots_i x0 x1 x2 _).mono ?_
  rintro e v1 ⟨gs, rfl, hs, hb⟩
  clear XR_q0 XR_q1 XR_q2
  have XS := Lib.hid hs
  have XR := Lib.hid (XR.out.call hb)
  have X4 := Lib.hid (X4.out.call hb)
  have HDO := Lib.hid (HDO.out.below hb HDO.out.lt)
  have HB0 := Lib.hid (HB0.out.trans (hb.mono HB0.out.size))
  clear hb
  have HGS := Lib.hid XS.out.lt
  clear hs
  have HLT := Lib.hid (show W.heap.size + 1 < v1.heap.size from X4.out.lt)
  go_wp2
  go_loopw [13] (fun i wr => ∃ k : Nat, k ≤ 2 ∧ i = .int .i64 k ∧ Hid (∀ j, j < k → okS (slN x0 x1 j) seq = false) ∧ Hid (Blk wr gs 9 #[.string x0, .string x1]) ∧ Hid (Blk wr (W.heap.size + 1) 23 #[.int .i64 0, .string ⟨#[]⟩]) ∧ Hid (Below W.heap.size W wr) ∧ Hid (Below v1.heap.size v1 wr)) (fun i _ => 2 - (intOf i).toNat)
  case atStart => exact ⟨0, by omega, rfl, Lib.hid (fun j h => absurd h (Nat.not_lt_zero _)), XS, X4, HB0, Lib.hid (Below.refl _ _)⟩
  case round =>
    obtain ⟨k, hk, rfl, HNB, XS, X4, HB0, HV⟩ := hrel
    have HDO := Lib.hid (HDO.out.below HV.out HDO.out.lt)
    by_cases hlt : k < 2
    rotate_left
    · obtain rfl : k = 2 := by omega
      have HE := Lib.hid (HNO.out HNB.out)
      have z0 := X4.out.at_ 0 rfl
      have z1 := X4.out.at_ 1 rfl
      have s0 := X4.out.soft 0
      have s1 := X4.out.soft 1
      go_wp2
      exact bodyPost_ret (v := .tuple #[.agg #[.int .i64 0, .string ⟨#[]⟩], .bool false]) (by simp [results, Tryd.results58, go_sem, *]) rfl ⟨by rw [HE.out] <;> rfl, (HB0.out.setCell (p := ⟨W.heap.size + 1, 0, none⟩) (by show W.heap.size ≤ W.heap.size + 1; omega) _).setCell (p := ⟨W.heap.size + 1, 1, none⟩) (by show W.heap.size ≤ W.heap.size + 1; omega) _⟩
    obtain ⟨t, ht⟩ : ∃ t, slN x0 x1 k = t := ⟨_, rfl⟩
    have e0 : wr.cell? ⟨gs, k, none⟩ = some (.string t) := by
      rcases (show k = 0 ∨ k = 1 by omega) with rfl | rfl
      · rw [← ht]; exact XS.out.at_ 0 rfl
      · rw [← ht]; exact XS.out.at_ 1 rfl
    have hts := HSZ.out k
    rw [ht] at hts
    have HTS := Lib.hid hts
    obtain ⟨⟨⟨n, u⟩, b⟩, hv⟩ : ∃ x, heldV t = x := ⟨_, rfl⟩
    have HH := Lib.hid (fun w hw => heldby_i t w HTS.out hw)
    rw [hv] at HH
    simp only [tupF_mk] at HH
    have HOK := Lib.hid (okS_held (seq := seq) hv)
    have HTT := Lib.hid ht
    have hk0 : (0 : Int) ≤ (k : Int) := Int.natCast_nonneg _
    have hk2 : (k : Int) < 2 := by omega
    clear hts hv ht
    go_wp2_with fail
    refine (HH.out _ HDO.out).mono ?_
    rintro e v2 ⟨rfl, hb⟩
    obtain ⟨V2, hV2⟩ : ∃ V, V = v2.alloc (.cells #[.int .i64 n, .string u] 23) := ⟨_, rfl⟩
    have hbV : Below v2.heap.size v2 V2 := by rw [hV2]; exact (Below.refl _ _).alloc (Nat.le_refl _) _
    have X8 := Lib.hid (show Blk V2 v2.heap.size 23 #[.int .i64 n, .string u] from by rw [hV2]; exact Blk.new _ _ _)
    have hb2 := hb.trans (hbV.mono hb.size)
    have XS := Lib.hid (XS.out.call hb2)
    have X4 := Lib.hid (X4.out.call hb2)
    have HB0 := Lib.hid (HB0.out.trans (hb2.mono HB0.out.size))
    have HV := Lib.hid (HV.out.trans (hb2.mono HV.out.size))
    clear hb hbV hb2 e0
    go_upto_region 5 with fail
    rw [← hV2]
    clear hV2
    have f0 := X8.out.at_ 0 rfl
    have f1 := X8.out.at_ 1 rfl
    by_cases hyes : b = true ∧ n = seq
    · obtain ⟨rfl, rfl⟩ := hyes
      have HE := Lib.hid (show heldX (x0, x1, x2) n = ((n, u), true) from by
        have h9 := HAT.out k hlt HNB.out (by rw [HTT.out, HOK.out.1]; simp)
        rw [h9, HTT.out, HOK.out.2 rfl])
      have hs : (n == n) = true := by simp
      have z0 := X4.out.at_ 0 rfl
      have z1 := X4.out.at_ 1 rfl
      have s0 := X4.out.soft 0
      have s1 := X4.out.soft 1
      go_wp2
      exact bodyPost_ret (v := .tuple #[.agg #[.int .i64 n, .string u], .bool true]) (by simp [results, Tryd.results58, go_sem, *]) rfl ⟨by rw [HE.out] <;> rfl, (HB0.out.setCell (p := ⟨W.heap.size + 1, 0, none⟩) (by show W.heap.size ≤ W.heap.size + 1; omega) _).setCell (p := ⟨W.heap.size + 1, 1, none⟩) (by show W.heap.size ≤ W.heap.size + 1; omega) _⟩
    · have hno : okS (slN x0 x1 k) seq = false := by
        rw [HTT.out, HOK.out.1]
        cases b
        · rfl
        · simp at hyes ⊢; exact hyes
      have HNB2 := Lib.hid (show ∀ j, j < k + 1 → okS (slN x0 x1 j) seq = false from fun j hj => by
        by_cases e : j = k
        · subst e; exact hno
        · exact HNB.out j (by omega))
      have hcase : b = false ∨ (b = true ∧ (n == seq) = false) := by
        cases b
        · exact .inl rfl
        · exact .inr ⟨rfl, by simp at hyes ⊢; exact hyes⟩
      clear hyes hno
      rcases hcase with rfl | ⟨rfl, hs⟩
      · go_wp2
        go_roundw
        case rel => exact ⟨k + 1, by omega, by go_num, HNB2, XS, X4, HB0, HV⟩
        case measure => (simp [intOf]) <;> omega
      · go_wp2
        go_roundw
        case rel => exact ⟨k + 1, by omega, by go_num, HNB2, XS, X4, HB0, HV⟩
        case measure => (simp [intOf]) <;> omega
end Go.Proofs.YtdedomfocljhaaaDoor.FrC
namespace Go.Proofs.YtdedomfocljhaaaDoor.FrC
open Go.RowKit PutM PutC JoinC SealC SpanC GetM GetC CrcC KeptC RepC ValC RowC
set_option linter.unusedVariables false
set_option linter.unusedSimpArgs false
set_option maxRecDepth 100000

theorem ofR_held (x : D_Region) (seq : Int) : ofR x seq = if (heldX x seq).2 = true then ((heldX x seq).1, 0, 0) else badF 6 := by
  unfold ofR heldX
  split
  · rfl
  · split
    · rfl
    · rfl
theorem hasreg_i {L : List D_Region} {p r : Int} {a : Option Addr} {c : Nat} {W : World} (hln : L.length ≤ 9223372036854775807) : Calls Tryd.prog 57 #[.agg #[.slice a L.length c, .int .i64 p], .int .i64 r] W fun e w' => e = .returned (.bool (isB r 0 ((L.length : Int) - 1))) ∧ Below W.heap.size W w' := by
  have HI := Lib.hid (fun w => is_impl r 0 ((L.length : Int) - 1) w)
  obtain ⟨w0, hw0⟩ : ∃ w, w = W.alloc (.cells #[.slice a L.length c, .int .i64 p] 42) := ⟨_, rfl⟩
  have HB0 := Lib.hid (show Below W.heap.size W w0 from by rw [hw0]; exact (Below.refl _ _).alloc (Nat.le_refl _) _)
  have X := Lib.hid (show Blk w0 W.heap.size 42 #[.slice a L.length c, .int .i64 p] from by rw [hw0]; exact Blk.new _ _ _)
  have q0 := X.out.at_ 0 rfl
  have hw : IntKind.i64.wrap ((L.length : Int) - 1) = (L.length : Int) - 1 := IntWalk.i64_in _ (by omega)
  go_enter Tryd.func57, Tryd.ntmps57
  go_upto_region 1 with fail
  rw [← hw0]
  clear hw0
  go_wp2_with fail
  refine (HI.out _).mono ?_
  rintro e w1 ⟨rfl, rfl⟩
  go_wp2
  go_ret
  exact ⟨rfl, HB0.out⟩
theorem hasreg_b {L : List D_Region} {p r : Int} {a : Option Addr} {c : Nat} {W : World} {b : Bool} (hb : isB r 0 ((L.length : Int) - 1) = b) (hln : L.length ≤ 9223372036854775807) : Calls Tryd.prog 57 #[.agg #[.slice a L.length c, .int .i64 p], .int .i64 r] W fun e w' => e = .returned (.bool b) ∧ Below W.heap.size W w' := by
  subst hb
  exact hasreg_i hln
set_option maxHeartbeats 1600000 in
theorem slotof_i {L : List D_Region} {p r seq : Int} {a : Option Addr} {ca : Nat} {W : World} (hL : RdSl R_Region W W.heap.size L a ca) (hD : Door W) :
    Calls Tryd.prog 28 #[.agg #[.slice a L.length ca, .int .i64 p], .int .i64 r, .int .i64 seq] W fun e w' => e = .returned (foV (slotOf (L, p) r seq)) ∧ Below W.heap.size W w' := by
  have HR := Lib.hid hL
  have HD := Lib.hid hD
  have hln : L.length ≤ 9223372036854775807 := by have h1 := hL.1; have h2 := hL.2.1; unfold maxLen at h2; omega
  obtain ⟨b, hb⟩ : ∃ b, diskB L p = b := ⟨_, rfl⟩
  have HBQ := Lib.hid hb
  obtain ⟨b2, hb2⟩ : ∃ b, isB r 0 ((L.length : Int) - 1) = b := ⟨_, rfl⟩
  have HB2 := Lib.hid hb2
  clear hL hb hb2 hD
  obtain ⟨w0, hw0⟩ : ∃ w, w = (W.alloc (.cells #[.slice a L.length ca, .int .i64 p] 42)).alloc (.cells #[.int .i64 0, .string ⟨#[]⟩, .int .i64 0, .int .i64 0] 25) := ⟨_, rfl⟩
  have HB0 := Lib.hid (show Below W.heap.size W w0 from by rw [hw0]; exact ((Below.refl _ _).alloc (Nat.le_refl _) _).alloc (by simp) _)
  have hq9 : Blk w0 W.heap.size 42 #[.slice a L.length ca, .int .i64 p] := by
    have h9 := Blk.new W 42 #[.slice a L.length ca, .int .i64 p]
    try simp only [World.size_alloc] at h9
    rw [hw0]
    exact (h9.alloc _)
  have XD := Lib.hid hq9
  clear hq9
  have hq9 : Blk w0 (W.heap.size + 1) 25 #[.int .i64 0, .string ⟨#[]⟩, .int .i64 0, .int .i64 0] := by
    have h9 := Blk.new (W.alloc (.cells #[.slice a L.length ca, .int .i64 p] 42)) 25 #[.int .i64 0, .string ⟨#[]⟩, .int .i64 0, .int .i64 0]
    try simp only [World.size_alloc] at h9
    rw [hw0]
    exact h9
  have X6 := Lib.hid hq9
  clear hq9
  have HR := Lib.hid (rdm R_Region_ok HR.out HB0.out)
  have HDO := Lib.hid (HD.out.below HB0.out HD.out.lt)
  go_enter Tryd.func28, Tryd.ntmps28
  go_upto_region 1 with fail
  rw [← hw0]
  clear hw0
  have XD_q0 := XD.out.at_ 0 rfl
  have XD_q1 := XD.out.at_ 1 rfl
  go_wp2_with fail
  refine (disk_ib HBQ.out HR.out).mono ?_
  rintro e v1 ⟨rfl, hb⟩
  clear XD_q0 XD_q1
  have XD := Lib.hid (XD.out.call hb)
  have X6 := Lib.hid (X6.out.call hb)
  have HR := Lib.hid (rdm R_Region_ok HR.out hb)
  have HDO := Lib.hid (HDO.out.below hb HDO.out.lt)
  have HB0 := Lib.hid (HB0.out.trans (hb.mono HB0.out.size))
  clear hb
  have XD_q0 := XD.out.at_ 0 rfl
  have XD_q1 := XD.out.at_ 1 rfl
  have X6_q0 := X6.out.at_ 0 rfl
  have X6_q1 := X6.out.at_ 1 rfl
  have X6_q2 := X6.out.at_ 2 rfl
  have X6_q3 := X6.out.at_ 3 rfl
  have X6_s0 := X6.out.soft 0
  have X6_s1 := X6.out.soft 1
  have X6_s2 := X6.out.soft 2
  have X6_s3 := X6.out.soft 3
  cases b with
  | false =>
    have HEQ := Lib.hid (slotOf_form (r := r) (seq := seq) HBQ.out)
    go_wp2
    exact bodyPost_ret (v := foV (badF 1)) (by simp [results, Tryd.results28, go_sem, foV, badF, *]) rfl ⟨by rw [HEQ.out] <;> rfl, ((((HB0.out.setCell (p := ⟨W.heap.size + 1, 0, none⟩) (by show W.heap.size ≤ W.heap.size + 1; omega) _).setCell (p := ⟨W.heap.size + 1, 1, none⟩) (by show W.heap.size ≤ W.heap.size + 1; omega) _).setCell (p := ⟨W.heap.size + 1, 2, none⟩) (by show W.heap.size ≤ W.heap.size + 1; omega) _).setCell (p := ⟨W.heap.size + 1, 3, none⟩) (by show W.heap.size ≤ W.heap.size + 1; omega) _)⟩
  | true =>
    go_wp2_with fail
    refine (hasreg_b HB2.out hln).mono ?_
    rintro e v2 ⟨rfl, hb⟩
    clear XD_q0 XD_q1 X6_q0 X6_q1 X6_q2 X6_q3 X6_s0 X6_s1 X6_s2 X6_s3
    have XD := Lib.hid (XD.out.call hb)
    have X6 := Lib.hid (X6.out.call hb)
    have HR := Lib.hid (rdm R_Region_ok HR.out hb)
    have HDO := Lib.hid (HDO.out.below hb HDO.out.lt)
    have HB0 := Lib.hid (HB0.out.trans (hb.mono HB0.out.size))
    clear hb
    have XD_q0 := XD.out.at_ 0 rfl
    have XD_q1 := XD.out.at_ 1 rfl
    have X6_q0 := X6.out.at_ 0 rfl
    have X6_q1 := X6.out.at_ 1 rfl
    have X6_q2 := X6.out.at_ 2 rfl
    have X6_q3 := X6.out.at_ 3 rfl
    have X6_s0 := X6.out.soft 0
    have X6_s1 := X6.out.soft 1
    have X6_s2 := X6.out.soft 2
    have X6_s3 := X6.out.soft 3
    cases b2 with
    | false =>
      have HEQ := Lib.hid (slotOf_none (r := r) (seq := seq) HBQ.out (fun h => by have h2 := HB2.out; rw [show isB r 0 ((L.length : Int) - 1) = true from (isB_iff _ _ _).2 (by omega)] at h2; cases h2))
      go_wp2
      exact bodyPost_ret (v := foV (badF 6)) (by simp [results, Tryd.results28, go_sem, foV, badF, *]) rfl ⟨by rw [HEQ.out] <;> rfl, ((((HB0.out.setCell (p := ⟨W.heap.size + 1, 0, none⟩) (by show W.heap.size ≤ W.heap.size + 1; omega) _).setCell (p := ⟨W.heap.size + 1, 1, none⟩) (by show W.heap.size ≤ W.heap.size + 1; omega) _).setCell (p := ⟨W.heap.size + 1, 2, none⟩) (by show W.heap.size ≤ W.heap.size + 1; omega) _).setCell (p := ⟨W.heap.size + 1, 3, none⟩) (by show W.heap.size ≤ W.heap.size + 1; omega) _)⟩
    | true =>
      have hrr := (isB_iff _ _ _).1 HB2.out
      obtain ⟨k, rfl⟩ := Int.eq_ofNat_of_zero_le hrr.1
      obtain ⟨⟨x0, x1, x2⟩, hx⟩ := el_some (show k < L.length by omega)
      have hk2 : (k : Int) < (L.length : Int) := by omega
      have hk0 : (0 : Int) ≤ (k : Int) := Int.natCast_nonneg _
      have HEQ := Lib.hid ((slotOf_yes (seq := seq) HBQ.out hx).trans (ofR_held _ _))
      obtain ⟨g, o, rfl, hg, e0, e1, e2, b0, b1, b3⟩ := reg_at HR.out hx
      have HH := Lib.hid (held_i x0 x1 x2 seq _ b0 b1 HDO.out)
      obtain ⟨⟨⟨n, u⟩, bh⟩, hv⟩ : ∃ x, heldX (x0, x1, x2) seq = x := ⟨_, rfl⟩
      rw [hv] at HEQ HH
      simp only [tupF_mk] at HH
      clear hv hx hrr hg b0 b1 b3
      go_wp2_with fail
      refine (HH.out).mono ?_
      rintro e v3 ⟨rfl, hb⟩
      clear XD_q0 XD_q1 X6_q0 X6_q1 X6_q2 X6_q3 X6_s0 X6_s1 X6_s2 X6_s3
      clear e0 e1 e2
      have XD := Lib.hid (XD.out.call hb)
      have X6 := Lib.hid (X6.out.call hb)
      have HR := Lib.hid (rdm R_Region_ok HR.out hb)
      have HDO := Lib.hid (HDO.out.below hb HDO.out.lt)
      have HB0 := Lib.hid (HB0.out.trans (hb.mono HB0.out.size))
      clear hb
      obtain ⟨v4, hv4⟩ : ∃ V, V = v3.alloc (.cells #[.int .i64 n, .string u] 23) := ⟨_, rfl⟩
      have hb : Below v3.heap.size v3 v4 := by rw [hv4]; exact (Below.refl _ _).alloc (Nat.le_refl _) _
      have hq9 : Blk v4 v3.heap.size 23 #[.int .i64 n, .string u] := by rw [hv4]; exact Blk.new _ _ _
      have XD := Lib.hid (XD.out.call hb)
      have X6 := Lib.hid (X6.out.call hb)
      have HR := Lib.hid (rdm R_Region_ok HR.out hb)
      have HDO := Lib.hid (HDO.out.below hb HDO.out.lt)
      have HB0 := Lib.hid (HB0.out.trans (hb.mono HB0.out.size))
      have X7 := Lib.hid hq9
      clear hb hq9
      go_upto_region 6 with fail
      rw [← hv4]
      clear hv4
      have X7_q0 := X7.out.at_ 0 rfl
      have X7_q1 := X7.out.at_ 1 rfl
      have X6_q0 := X6.out.at_ 0 rfl
      have X6_q1 := X6.out.at_ 1 rfl
      have X6_q2 := X6.out.at_ 2 rfl
      have X6_q3 := X6.out.at_ 3 rfl
      have X6_s0 := X6.out.soft 0
      have X6_s1 := X6.out.soft 1
      have X6_s2 := X6.out.soft 2
      have X6_s3 := X6.out.soft 3
      cases bh with
      | false =>
        go_wp2
        exact bodyPost_ret (v := foV (badF 6)) (by simp [results, Tryd.results28, go_sem, foV, badF, *]) rfl ⟨by rw [HEQ.out] <;> rfl, ((((HB0.out.setCell (p := ⟨W.heap.size + 1, 0, none⟩) (by show W.heap.size ≤ W.heap.size + 1; omega) _).setCell (p := ⟨W.heap.size + 1, 1, none⟩) (by show W.heap.size ≤ W.heap.size + 1; omega) _).setCell (p := ⟨W.heap.size + 1, 2, none⟩) (by show W.heap.size ≤ W.heap.size + 1; omega) _).setCell (p := ⟨W.heap.size + 1, 3, none⟩) (by show W.heap.size ≤ W.heap.size + 1; omega) _)⟩
      | true =>
        go_wp2
        exact bodyPost_ret (v := foV ((n, u), 0, 0)) (by simp [results, Tryd.results28, go_sem, foV, badF, *]) rfl ⟨by rw [HEQ.out] <;> rfl, ((((HB0.out.setCell (p := ⟨W.heap.size + 1, 0, none⟩) (by show W.heap.size ≤ W.heap.size + 1; omega) _).setCell (p := ⟨W.heap.size + 1, 1, none⟩) (by show W.heap.size ≤ W.heap.size + 1; omega) _).setCell (p := ⟨W.heap.size + 1, 2, none⟩) (by show W.heap.size ≤ W.heap.size + 1; omega) _).setCell (p := ⟨W.heap.size + 1, 3, none⟩) (by show W.heap.size ≤ W.heap.size + 1; omega) _)⟩
end Go.Proofs.YtdedomfocljhaaaDoor.FrC
namespace Go.Proofs.YtdedomfocljhaaaDoor.FrC
open Go.RowKit PutM PutC JoinC SealC SpanC GetM GetC CrcC KeptC RepC ValC RowC
set_option linter.unusedVariables false
set_option linter.unusedSimpArgs false
set_option maxRecDepth 100000

/-- a slot of the region holds the number -/
def holdX (x : D_Region) (seq : Int) : Bool := okS x.1 seq || okS x.2.1 seq
theorem heldX_two (x : D_Region) (seq : Int) : (heldX x seq).2 = holdX x seq := by
  unfold heldX holdX
  cases h0 : okS x.1 seq
  · cases h1 : okS x.2.1 seq <;> simp
  · simp
theorem ofR_code (x : D_Region) (seq : Int) : (ofR x seq).2.2 = if holdX x seq = true then 0 else 6 := by
  rw [ofR_held, heldX_two]
  split <;> rfl
/-- in every region one holds it -/
def allB (L : List D_Region) (seq : Int) : Bool := L.all (fun x => holdX x seq)
theorem allB_yes {L : List D_Region} {seq : Int} (h : ∀ (j : Nat) (x : D_Region), L[j]? = some x → holdX x seq = true) : allB L seq = true := by
  unfold allB
  rw [List.all_eq_true]
  intro x hx
  obtain ⟨j, hj⟩ := List.getElem?_of_mem hx
  exact h j x hj
theorem allB_no {L : List D_Region} {seq : Int} {j : Nat} {x : D_Region} (hx : L[j]? = some x) (h : holdX x seq = false) : allB L seq = false := by
  cases ha : allB L seq with
  | false => rfl
  | true =>
    unfold allB at ha
    rw [List.all_eq_true] at ha
    rw [ha x (List.mem_of_getElem? hx)] at h
    cases h
/-- the base so far -/
def bestN (L : List D_Region) (x0 x1 : ByteArray) : Nat → Int
  | 0 => 0
  | k + 1 => if (slotR (slN x0 x1 k)).2.2 = 0 ∧ allB L (slotR (slN x0 x1 k)).1.1 = true then max (bestN L x0 x1 k) (slotR (slN x0 x1 k)).1.1 else bestN L x0 x1 k
theorem bestN_yes {L : List D_Region} {x0 x1 : ByteArray} {k : Nat} {n q : Int} {u : ByteArray} (h : slotR (slN x0 x1 k) = ((n, u), q, 0)) (ha : allB L n = true) : bestN L x0 x1 (k + 1) = max (bestN L x0 x1 k) n := by rw [bestN, h, if_pos ⟨rfl, ha⟩]
theorem bestN_code {L : List D_Region} {x0 x1 : ByteArray} {k : Nat} {n q c : Int} {u : ByteArray} (h : slotR (slN x0 x1 k) = ((n, u), q, c)) (hc : ¬ (c = 0 ∧ allB L n = true)) : bestN L x0 x1 (k + 1) = bestN L x0 x1 k := by rw [bestN, h, if_neg hc]
noncomputable def baseV (d : D_Disk) : Int := if diskB d.1 d.2 = true then (match d.1[0]? with | some x => bestN d.1 x.1 x.2.1 2 | none => 0) else 0
theorem baseV_no {L : List D_Region} {p : Int} (h : diskB L p = false) : baseV (L, p) = 0 := by unfold baseV; rw [if_neg (by simp [h])]
theorem baseV_yes {L : List D_Region} {p : Int} {x : D_Region} (h : diskB L p = true) (hx : L[0]? = some x) : baseV (L, p) = bestN L x.1 x.2.1 2 := by unfold baseV; rw [if_pos h]; simp only; rw [hx]
/-- region 0 holds what its own slot holds -/
theorem own_hold {x0 x1 x2 : ByteArray} {k : Nat} {n q : Int} {u : ByteArray} (h : slotR (slN x0 x1 k) = ((n, u), q, 0)) : holdX (x0, x1, x2) n = true := by
  unfold holdX okS
  cases k with
  | zero =>
    have e : slotR x0 = ((n, u), q, 0) := h
    simp [e]
  | succ k =>
    have e : slotR x1 = ((n, u), q, 0) := h
    simp [e]
theorem slotR_heldV {t : ByteArray} {n : Int} {u : ByteArray} {b : Bool} (h : heldV t = ((n, u), b)) : (b = true → ∃ q, slotR t = ((n, u), q, 0)) ∧ (b = false → ¬ (slotR t).2.2 = 0) := by
  unfold heldV at h
  split at h
  · rename_i hc
    simp only [Prod.mk.injEq] at h
    obtain ⟨h1, rfl⟩ := h
    refine ⟨fun _ => ⟨(slotR t).2.1, ?_⟩, fun e => by cases e⟩
    rw [show slotR t = ((slotR t).1, (slotR t).2.1, (slotR t).2.2) from rfl, hc, h1]
  · rename_i hc
    simp only [Prod.mk.injEq] at h
    obtain ⟨_, rfl⟩ := h
    exact ⟨fun e => (by cases e), fun _ => hc⟩
theorem bestN_bd {L : List D_Region} {x0 x1 : ByteArray} (k : Nat) : 0 ≤ bestN L x0 x1 k ∧ bestN L x0 x1 k ≤ 1000000 := by
  induction k with
  | zero => exact ⟨Int.le_refl 0, show (0 : Int) ≤ 1000000 by decide⟩
  | succ k ih =>
    rw [bestN]
    split
    · rename_i h
      have hb : 0 ≤ (slotR (slN x0 x1 k)).1.1 ∧ (slotR (slN x0 x1 k)).1.1 ≤ 1000000 := by
        have h0 := h.1
        by_cases hl : (frR (slN x0 x1 k) 0).2.2 = 0 ∧ (frR (slN x0 x1 k) 0).2.1 ≠ (slN x0 x1 k).size
        · rw [slotR_long hl] at h0
          exact absurd (show (3 : Int) = 0 from h0) (by decide)
        · rw [slotR_as hl] at h0 ⊢
          exact (frB_iff.1 (frR_ok h0).2.2.2.2).1
      omega
    · exact ih
theorem slotR_seq {t : ByteArray} {n q : Int} {u : ByteArray} (h : slotR t = ((n, u), q, 0)) : 0 ≤ n ∧ n ≤ 1000000 := by
  by_cases hl : (frR t 0).2.2 = 0 ∧ (frR t 0).2.1 ≠ t.size
  · rw [slotR_long hl] at h
    have := congrArg (fun x => x.2.2) h
    exact absurd (show (3 : Int) = 0 from this) (by decide)
  · rw [slotR_as hl] at h
    have h1 := frR_ok (s := t) (a := 0) (by rw [h])
    rw [h] at h1
    exact (frB_iff.1 h1.2.2.2.2).1
end Go.Proofs.YtdedomfocljhaaaDoor.FrC
namespace Go.Proofs.YtdedomfocljhaaaDoor.FrC
open Go.RowKit PutM PutC JoinC SealC SpanC GetM GetC CrcC KeptC RepC ValC RowC
set_option linter.unusedVariables false
set_option linter.unusedSimpArgs false
set_option maxRecDepth 100000

set_option maxHeartbeats 3200000 in
theorem allhold_i {L : List D_Region} {p seq : Int} {a : Option Addr} {ca : Nat} {W : World} (hL : RdSl R_Region W W.heap.size L a ca) (hD : Door W) :
    Calls Tryd.prog 56 #[.agg #[.slice a L.length ca, .int .i64 p], .int .i64 seq] W fun e w' => e = .returned (.bool (allB L seq)) ∧ Below W.heap.size W w' := by
  have HD := Lib.hid hD
  have hln : L.length ≤ 9223372036854775807 := by have h1 := hL.1; have h2 := hL.2.1; unfold maxLen at h2; omega
  obtain ⟨w0, hw0⟩ : ∃ w, w = W.alloc (.cells #[.slice a L.length ca, .int .i64 p] 42) := ⟨_, rfl⟩
  have HB0 := Lib.hid (show Below W.heap.size W w0 from by rw [hw0]; exact (Below.refl _ _).alloc (Nat.le_refl _) _)
  have X := Lib.hid (show Blk w0 W.heap.size 42 #[.slice a L.length ca, .int .i64 p] from by rw [hw0]; exact Blk.new _ _ _)
  have HR := Lib.hid (rdm R_Region_ok hL HB0.out)
  have HDO := Lib.hid (HD.out.below HB0.out HD.out.lt)
  have HNO := Lib.hid (fun j x => allB_no (L := L) (seq := seq) (j := j) (x := x))
  have HYE := Lib.hid (allB_yes (L := L) (seq := seq))
  clear hL hD
  have q0 := X.out.at_ 0 rfl
  go_enter Tryd.func56, Tryd.ntmps56
  go_upto_region 1 with fail
  rw [← hw0]
  clear hw0
  go_wp2
  go_loopw [12] (fun i wr => ∃ k : Nat, k ≤ L.length ∧ i = .int .i64 k ∧ Hid (∀ (j : Nat) (x : D_Region), j < k → L[j]? = some x → holdX x seq = true) ∧ Hid (Below W.heap.size W wr) ∧ Hid (Below w0.heap.size w0 wr)) (fun i _ => L.length - (intOf i).toNat)
  case atStart => exact ⟨0, Nat.zero_le _, rfl, Lib.hid (fun j x h => absurd h (Nat.not_lt_zero _)), HB0, Lib.hid (Below.refl _ _)⟩
  case round =>
    obtain ⟨k, hk, rfl, HOK, HB, HV⟩ := hrel
    have HDK := Lib.hid (HDO.out.below HV.out HDO.out.lt)
    have HRK := Lib.hid (rdm R_Region_ok HR.out HV.out)
    by_cases hlt : k < L.length
    rotate_left
    · obtain rfl : k = L.length := by omega
      have hdl : decide ((L.length : Int) < (L.length : Int)) = false := decide_eq_false (by omega)
      have HE := Lib.hid (HYE.out (fun j x hx => HOK.out j x (List.getElem?_eq_some_iff.1 hx).1 hx))
      go_wp2
      go_ret
      exact ⟨by rw [HE.out] <;> rfl, HB.out⟩
    have hdl : decide ((k : Int) < (L.length : Int)) = true := decide_eq_true (by omega)
    obtain ⟨⟨x0, x1, x2⟩, hx⟩ := el_some hlt
    have HX := Lib.hid hx
    obtain ⟨g, o, rfl, hg, e0, e1, e2, b0, b1, b3⟩ := reg_at HRK.out hx
    have hi0 : (0 : Int) ≤ (k : Int) := Int.natCast_nonneg _
    have hi1 : (k : Int) < (L.length : Int) := by omega
    obtain ⟨V1, hV1⟩ : ∃ V, V = wr.alloc (.cells #[.string x0, .string x1, .string x2] 70) := ⟨_, rfl⟩
    have hbV : Below wr.heap.size wr V1 := by rw [hV1]; exact (Below.refl _ _).alloc (Nat.le_refl _) _
    have X6 := Lib.hid (show Blk V1 wr.heap.size 70 #[.string x0, .string x1, .string x2] from by rw [hV1]; exact Blk.new _ _ _)
    have HB := Lib.hid (HB.out.trans (hbV.mono HB.out.size))
    have HV := Lib.hid (HV.out.trans (hbV.mono HV.out.size))
    have HDK := Lib.hid (HDK.out.below hbV HDK.out.lt)
    have HH := Lib.hid (held_i x0 x1 x2 seq V1 b0 b1 HDK.out)
    obtain ⟨⟨⟨n, u⟩, b⟩, hv⟩ : ∃ x, heldX (x0, x1, x2) seq = x := ⟨_, rfl⟩
    have HT := Lib.hid (show holdX (x0, x1, x2) seq = b from by rw [← heldX_two, hv])
    rw [hv] at HH
    simp only [tupF_mk] at HH
    clear hx hv hg b0 b1 b3 hbV
    go_upto_region 4 with fail
    rw [← hV1]
    clear hV1 e0 e1 e2
    have f0 := X6.out.at_ 0 rfl
    have f1 := X6.out.at_ 1 rfl
    have f2 := X6.out.at_ 2 rfl
    go_wp2_with fail
    refine HH.out.mono ?_
    rintro e w2 ⟨rfl, hb⟩
    have hbV : Below w2.heap.size w2 (w2.alloc (.cells #[.int .i64 n, .string u] 23)) := (Below.refl _ _).alloc (Nat.le_refl _) _
    have hb2 := hb.trans (hbV.mono hb.size)
    have HB2 := Lib.hid (HB.out.trans (hb2.mono HB.out.size))
    have HV2 := Lib.hid (HV.out.trans (hb2.mono HV.out.size))
    clear hb hbV hb2 f0 f1 f2
    cases b with
    | false =>
      have HE := Lib.hid (HNO.out k _ HX.out HT.out)
      go_wp2
      go_ret
      exact ⟨by rw [HE.out] <;> rfl, HB2.out⟩
    | true =>
      have HOK2 := Lib.hid (show ∀ (j : Nat) (x : D_Region), j < k + 1 → L[j]? = some x → holdX x seq = true from fun j x hj hx => by
        by_cases e : j = k
        · subst e
          have h9 := HX.out
          rw [hx] at h9
          injection h9 with h9
          subst h9
          exact HT.out
        · exact HOK.out j x (by omega) hx)
      go_wp2
      go_roundw
      case rel => exact ⟨k + 1, by omega, by go_num, HOK2, HB2, HV2⟩
      case measure => (simp [intOf]) <;> omega
theorem allhold_b {L : List D_Region} {p seq : Int} {a : Option Addr} {ca : Nat} {W : World} {b : Bool} (hb : allB L seq = b) (hL : RdSl R_Region W W.heap.size L a ca) (hD : Door W) :
    Calls Tryd.prog 56 #[.agg #[.slice a L.length ca, .int .i64 p], .int .i64 seq] W fun e w' => e = .returned (.bool b) ∧ Below W.heap.size W w' := by
  subst hb
  exact allhold_i hL hD
set_option maxHeartbeats 3200000 in
theorem base_i {L : List D_Region} {p : Int} {a : Option Addr} {ca : Nat} {W : World} (hL : RdSl R_Region W W.heap.size L a ca) (hD : Door W) :
    Calls Tryd.prog 26 #[.agg #[.slice a L.length ca, .int .i64 p]] W fun e w' => e = .returned (.int .i64 (baseV (L, p))) ∧ Below W.heap.size W w' := by
  have HR := Lib.hid hL
  have HD := Lib.hid hD
  have hln : L.length ≤ 9223372036854775807 := by have h1 := hL.1; have h2 := hL.2.1; unfold maxLen at h2; omega
  obtain ⟨b, hb⟩ : ∃ b, diskB L p = b := ⟨_, rfl⟩
  have HBQ := Lib.hid hb
  clear hL hb hD
  obtain ⟨w0, hw0⟩ : ∃ w, w = W.alloc (.cells #[.slice a L.length ca, .int .i64 p] 42) := ⟨_, rfl⟩
  have HB0 := Lib.hid (show Below W.heap.size W w0 from by rw [hw0]; exact (Below.refl _ _).alloc (Nat.le_refl _) _)
  have hq9 : Blk w0 W.heap.size 42 #[.slice a L.length ca, .int .i64 p] := by
    have h9 := Blk.new W 42 #[.slice a L.length ca, .int .i64 p]
    try simp only [World.size_alloc] at h9
    rw [hw0]
    exact h9
  have XD := Lib.hid hq9
  clear hq9
  have HR := Lib.hid (rdm R_Region_ok HR.out HB0.out)
  have HDO := Lib.hid (HD.out.below HB0.out HD.out.lt)
  go_enter Tryd.func26, Tryd.ntmps26
  go_upto_region 1 with fail
  rw [← hw0]
  clear hw0
  have XD_q0 := XD.out.at_ 0 rfl
  have XD_q1 := XD.out.at_ 1 rfl
  go_wp2_with fail
  refine (disk_ib HBQ.out HR.out).mono ?_
  rintro e v1 ⟨rfl, hb⟩
  clear XD_q0 XD_q1
  have XD := Lib.hid (XD.out.call hb)
  have HR := Lib.hid (rdm R_Region_ok HR.out hb)
  have HDO := Lib.hid (HDO.out.below hb HDO.out.lt)
  have HB0 := Lib.hid (HB0.out.trans (hb.mono HB0.out.size))
  clear hb
  have XD_q0 := XD.out.at_ 0 rfl
  have XD_q1 := XD.out.at_ 1 rfl
  cases b with
  | false =>
    have HEQ := Lib.hid (baseV_no HBQ.out)
    go_wp2
    go_ret
    exact ⟨by rw [HEQ.out] <;> rfl, HB0.out⟩
  | true =>
    have hlp := (diskB_iff.1 HBQ.out).1.1
    obtain ⟨⟨x0, x1, x2⟩, hx⟩ := el_some (show 0 < L.length by omega)
    have HEQ := Lib.hid (baseV_yes HBQ.out hx)
    have hl0 : (0 : Int) < (L.length : Int) := by omega
    have hl0N : 0 < L.length := hlp
    obtain ⟨g, o, rfl, hg, e0, e1, e2, b0, b1, b3⟩ := reg_at HR.out hx
    simp only [Nat.zero_mul, Nat.add_zero] at e0 e1 e2
    have HSZ := Lib.hid (show ∀ k, (slN x0 x1 k).size ≤ maxLen from fun k => by cases k <;> assumption)
    clear hx hlp hg b0 b1 b3
    go_wp2_with fail
    refine (slots_i x0 x1 x2 _).mono ?_
    rintro e v2 ⟨gs, rfl, hs, hb⟩
    clear XD_q0 XD_q1
    clear e0 e1 e2
    have XS := Lib.hid hs
    clear hs
    have XD := Lib.hid (XD.out.call hb)
    have HR := Lib.hid (rdm R_Region_ok HR.out hb)
    have HDO := Lib.hid (HDO.out.below hb HDO.out.lt)
    have HB0 := Lib.hid (HB0.out.trans (hb.mono HB0.out.size))
    clear hb
    have hln2 := hl0N
    go_wp2
    go_loopw [17, 3] (fun i m wr => ∃ k : Nat, k ≤ 2 ∧ i = .int .i64 k ∧ m = .int .i64 (bestN L x0 x1 k) ∧ Hid (Below W.heap.size W wr) ∧ Hid (Below v2.heap.size v2 wr)) (fun i _ _ => 2 - (intOf i).toNat)
    case atStart => exact ⟨0, by omega, rfl, rfl, HB0, Lib.hid (Below.refl _ _)⟩
    case round =>
      obtain ⟨k, hk, rfl, rfl, HB0, HV⟩ := hrel
      have HDO := Lib.hid (HDO.out.below HV.out HDO.out.lt)
      have HR := Lib.hid (rdm R_Region_ok HR.out HV.out)
      have XD := Lib.hid (XD.out.call HV.out)
      have XS := Lib.hid (XS.out.call HV.out)
      obtain ⟨m, hm⟩ : ∃ m, bestN L x0 x1 k = m := ⟨_, rfl⟩
      have HM := Lib.hid hm
      rw [hm]
      clear hm
      by_cases hlt : k < 2
      rotate_left
      · obtain rfl : k = 2 := by omega
        go_wp2
        go_ret
        exact ⟨by rw [HEQ.out, HM.out] <;> rfl, HB0.out⟩
      obtain ⟨t, ht⟩ : ∃ t, slN x0 x1 k = t := ⟨_, rfl⟩
      have e0 : wr.cell? ⟨gs, k, none⟩ = some (.string t) := by
        rcases (show k = 0 ∨ k = 1 by omega) with rfl | rfl
        · rw [← ht]; exact XS.out.at_ 0 rfl
        · rw [← ht]; exact XS.out.at_ 1 rfl
      have hts := HSZ.out k
      rw [ht] at hts
      have HTS := Lib.hid hts
      obtain ⟨⟨⟨n, u⟩, b⟩, hv⟩ : ∃ x, heldV t = x := ⟨_, rfl⟩
      have HH := Lib.hid (fun w hw => heldby_i t w HTS.out hw)
      rw [hv] at HH
      simp only [tupF_mk] at HH
      have HSH := Lib.hid (slotR_heldV hv)
      have HTT := Lib.hid ht
      have hk0 : (0 : Int) ≤ (k : Int) := Int.natCast_nonneg _
      have hk2 : (k : Int) < 2 := by omega
      clear hts hv ht
      go_wp2_with fail
      refine (HH.out _ HDO.out).mono ?_
      rintro e v8 ⟨rfl, hb⟩
      obtain ⟨V9, hV9⟩ : ∃ V, V = v8.alloc (.cells #[.int .i64 n, .string u] 23) := ⟨_, rfl⟩
      have hbV : Below v8.heap.size v8 V9 := by rw [hV9]; exact (Below.refl _ _).alloc (Nat.le_refl _) _
      have X6 := Lib.hid (show Blk V9 v8.heap.size 23 #[.int .i64 n, .string u] from by rw [hV9]; exact Blk.new _ _ _)
      have hb2 := hb.trans (hbV.mono hb.size)
      have XD := Lib.hid (XD.out.call hb2)
      have HB0 := Lib.hid (HB0.out.trans (hb2.mono HB0.out.size))
      have HV := Lib.hid (HV.out.trans (hb2.mono HV.out.size))
      have HDO := Lib.hid (HDO.out.below hb2 HDO.out.lt)
      have HR := Lib.hid (rdm R_Region_ok HR.out hb2)
      clear hb hbV hb2 e0
      go_upto_region 8 with fail
      rw [← hV9]
      clear hV9
      have f0 := X6.out.at_ 0 rfl
      have f1 := X6.out.at_ 1 rfl
      have d0 := XD.out.at_ 0 rfl
      have d1 := XD.out.at_ 1 rfl
      cases b with
      | false =>
        have HN := Lib.hid (show bestN L x0 x1 (k + 1) = m from by
          obtain ⟨⟨⟨n', u'⟩, q', c'⟩, hs⟩ : ∃ x, slotR t = x := ⟨_, rfl⟩
          have h9 := HSH.out.2 (by first | rfl | trivial)
          rw [hs] at h9
          rw [← HM.out]
          exact bestN_code (by rw [HTT.out]; exact hs) (fun h => h9 h.1))
        go_wp2
        go_roundw
        case rel => exact ⟨k + 1, by omega, by go_num, by rw [HN.out], HB0, HV⟩
        case measure => (simp [intOf]) <;> omega
      | true =>
      obtain ⟨q9, hs9⟩ := HSH.out.1 (by first | rfl | trivial)
      have HS9 := Lib.hid hs9
      clear hs9
      obtain ⟨ab, hab⟩ : ∃ b, allB L n = b := ⟨_, rfl⟩
      have HAB := Lib.hid hab
      clear hab
      go_wp2_with fail
      refine (allhold_b HAB.out HR.out HDO.out).mono ?_
      rintro e v10 ⟨rfl, hb⟩
      have X6 := Lib.hid (X6.out.call hb)
      have HB0 := Lib.hid (HB0.out.trans (hb.mono HB0.out.size))
      have HV := Lib.hid (HV.out.trans (hb.mono HV.out.size))
      clear hb f0 f1 d0 d1
      have f0 := X6.out.at_ 0 rfl
      cases ab with
      | false =>
        have HN := Lib.hid (show bestN L x0 x1 (k + 1) = m from by
          rw [← HM.out]
          exact bestN_code (n := n) (q := q9) (c := 0) (u := u) (by rw [HTT.out]; exact HS9.out) (fun h => by rw [HAB.out] at h; cases h.2))
        go_wp2
        go_roundw
        case rel => exact ⟨k + 1, by omega, by go_num, by rw [HN.out], HB0, HV⟩
        case measure => (simp [intOf]) <;> omega
      | true =>
        have HN := Lib.hid (show bestN L x0 x1 (k + 1) = max m n from by
          rw [← HM.out]
          exact bestN_yes (n := n) (q := q9) (u := u) (by rw [HTT.out]; exact HS9.out) HAB.out)
        go_wp2
        go_roundw
        case rel => exact ⟨k + 1, by omega, by go_num, by rw [HN.out]; exact congrArg (Value.int .i64) (by by_cases h : m < n <;> simp only [h, if_true, if_false, Int.max_def] <;> (try split) <;> omega), HB0, HV⟩
        case measure => (simp [intOf]) <;> omega
end Go.Proofs.YtdedomfocljhaaaDoor.FrC
namespace Go.Proofs.YtdedomfocljhaaaDoor.FrC
open Go.RowKit PutM PutC JoinC SealC SpanC GetM GetC CrcC KeptC RepC ValC RowC
set_option linter.unusedVariables false
set_option linter.unusedSimpArgs false
set_option maxRecDepth 100000

theorem max_s (a b : Int) (w : World) : Calls Tryd.prog 52 #[.int .i64 a, .int .i64 b] w fun e w' => e = .returned (.int .i64 (max a b)) ∧ w = w' := by
  by_cases h : b < a
  · have hd : decide (b < a) = true := decide_eq_true h
    have HE := Lib.hid (show max a b = a from by omega)
    go_enter Tryd.func52, Tryd.ntmps52
    go_wp2
    go_ret
    exact ⟨by rw [HE.out] <;> rfl, rfl⟩
  · have hd : decide (b < a) = false := decide_eq_false h
    have HE := Lib.hid (show max a b = b from by omega)
    go_enter Tryd.func52, Tryd.ntmps52
    go_wp2
    go_ret
    exact ⟨by rw [HE.out] <;> rfl, rfl⟩
/-- a held conjunction of two ways, told once -/
def InR (L : List D_Region) (n c : Int) (j : Nat) (ab : Bool) : Prop := (ab = true ∧ c = 0 ∧ ∀ (i : Nat) (x : D_Region), 1 ≤ i → i < j → L[i]? = some x → holdX x n = true) ∨ (ab = false ∧ ¬ (c = 0 ∧ allB L n = true))
set_option maxHeartbeats 3200000 in
theorem base_s {L : List D_Region} {p : Int} {a : Option Addr} {ca : Nat} {W : World} (hL : RdSl R_Region W W.heap.size L a ca) :
    Calls Tryd.prog 25 #[.agg #[.slice a L.length ca, .int .i64 p]] W fun e w' => e = .returned (.int .i64 (baseV (L, p))) ∧ Below W.heap.size W w' := by
  have HR := Lib.hid hL
  have hln : L.length ≤ 9223372036854775807 := by have h1 := hL.1; have h2 := hL.2.1; unfold maxLen at h2; omega
  obtain ⟨b, hb⟩ : ∃ b, diskB L p = b := ⟨_, rfl⟩
  have HBQ := Lib.hid hb
  clear hL hb
  obtain ⟨w0, hw0⟩ : ∃ w, w = W.alloc (.cells #[.slice a L.length ca, .int .i64 p] 42) := ⟨_, rfl⟩
  have HB0 := Lib.hid (show Below W.heap.size W w0 from by rw [hw0]; exact (Below.refl _ _).alloc (Nat.le_refl _) _)
  have hq9 : Blk w0 W.heap.size 42 #[.slice a L.length ca, .int .i64 p] := by
    have h9 := Blk.new W 42 #[.slice a L.length ca, .int .i64 p]
    try simp only [World.size_alloc] at h9
    rw [hw0]
    exact h9
  have XD := Lib.hid hq9
  clear hq9
  have HR := Lib.hid (rdm R_Region_ok HR.out HB0.out)
  go_enter Tryd.func25, Tryd.ntmps25
  go_upto_region 1 with fail
  rw [← hw0]
  clear hw0
  have XD_q0 := XD.out.at_ 0 rfl
  have XD_q1 := XD.out.at_ 1 rfl
  go_wp2_with fail
  refine (disk_sb HBQ.out HR.out).mono ?_
  rintro e v1 ⟨rfl, hb⟩
  clear XD_q0 XD_q1
  have XD := Lib.hid (XD.out.call hb)
  have HR := Lib.hid (rdm R_Region_ok HR.out hb)
  have HB0 := Lib.hid (HB0.out.trans (hb.mono HB0.out.size))
  clear hb
  have XD_q0 := XD.out.at_ 0 rfl
  have XD_q1 := XD.out.at_ 1 rfl
  cases b with
  | false =>
    have HEQ := Lib.hid (baseV_no HBQ.out)
    go_wp2
    go_ret
    exact ⟨by rw [HEQ.out] <;> rfl, HB0.out⟩
  | true =>
    clear XD_q0 XD_q1
    have hlp := (diskB_iff.1 HBQ.out).1.1
    obtain ⟨⟨x0, x1, x2⟩, hx⟩ := el_some (show 0 < L.length by omega)
    have HEQ := Lib.hid (baseV_yes HBQ.out hx)
    have HX0 := Lib.hid hx
    have hl0 : (0 : Int) < (L.length : Int) := by omega
    have hl0N : 0 < L.length := hlp
    obtain ⟨g, o, rfl, hg, e0, e1, e2, b0, b1, b3⟩ := reg_at HR.out hx
    simp only [Nat.zero_mul, Nat.add_zero] at e0 e1 e2
    have HS0 := Lib.hid (fun w => slot_s x0 w b0)
    have HS1 := Lib.hid (fun w => slot_s x1 w b1)
    obtain ⟨⟨⟨n0, u0⟩, q0, c0⟩, hf0⟩ : ∃ x, slotR x0 = x := ⟨_, rfl⟩
    obtain ⟨⟨⟨n1, u1⟩, q1, c1⟩, hf1⟩ : ∃ x, slotR x1 = x := ⟨_, rfl⟩
    rw [hf0] at HS0
    rw [hf1] at HS1
    simp only [foV_mk] at HS0 HS1
    have HE0 := Lib.hid hf0
    have HE1 := Lib.hid hf1
    have HE00 := Lib.hid e0
    have HE11 := Lib.hid e1
    clear hx hlp b0 b1 b3 hf0 hf1 e0 e1 e2
    go_upto_region 4 with fail
    refine wp_region_held_drew (S := (fun V => Below (v1).heap.size (v1) V)) (by kernel_rfl) ((Below.refl _ _).drew) (fun hHeld => ?_)
    refine tk 0 hHeld ?_
    refine tk 1 hHeld ?_ (hy := fun w hSw => by (try dsimp only at hSw); have k0 := (hSw.cell (p := ⟨W.heap.size, 0, none⟩) XD.out.lt).trans (XD.out.at_ 0 rfl); clear hSw; go_simp; try with_reducible rfl)
    refine tk 2 hHeld ?_
    refine tk 3 hHeld ?_
    refine tk 4 hHeld ?_ (hy := fun w hSw => by (try dsimp only at hSw); have k0 := (hSw.cell (p := ⟨g, o, none⟩) hg).trans HE00.out; clear hSw; go_simp; try with_reducible rfl)
    refine tk 6 hHeld ?_
    refine tk 7 hHeld ?_ (hy := fun w hSw => by (try dsimp only at hSw); have k0 := (hSw.cell (p := ⟨W.heap.size, 0, none⟩) XD.out.lt).trans (XD.out.at_ 0 rfl); clear hSw; go_simp; try with_reducible rfl)
    refine tk 8 hHeld ?_
    refine tk 9 hHeld ?_
    refine tk 10 hHeld ?_ (hy := fun w hSw => by (try dsimp only at hSw); have k0 := (hSw.cell (p := ⟨g, o + 1, none⟩) hg).trans HE11.out; clear hSw; go_simp; try with_reducible rfl)
    refine rd1 5 (fun K hK => ?_)
    go_simp
    go_at_call 50
    refine (HS0.out _).mono ?_
    rintro e v2 ⟨rfl, hb⟩
    refine hK.out _ _ (hHeld.trans (hb.mono hHeld.size)) (fun hHeld => ?_)
    clear hK K hb
    refine rd1 11 (fun K hK => ?_)
    go_simp
    go_at_call 50
    refine (HS1.out _).mono ?_
    rintro e v3 ⟨rfl, hb⟩
    refine hK.out _ _ (hHeld.trans (hb.mono hHeld.size)) (fun hHeld => ?_)
    clear hK K hb
    refine rd1 12 (fun K hK => ?_)
    go_simp
    have hb : Below v3.heap.size v3 (v3.alloc (.cells #[.int .i64 n0, .string u0, .int .i64 q0, .int .i64 c0, .int .i64 n1, .string u1, .int .i64 q1, .int .i64 c1] 25)) := (Below.refl _ _).alloc (Nat.le_refl _) _
    have KB := Lib.hid (Blk.new v3 25 #[.int .i64 n0, .string u0, .int .i64 q0, .int .i64 c0, .int .i64 n1, .string u1, .int .i64 q1, .int .i64 c1])
    refine hK.out _ _ (hHeld.trans (hb.mono hHeld.size)) (fun hHeld => ?_)
    clear hK K hb
    refine tk 13 hHeld ?_
    refine rd0 ?_
    have HF := Lib.hid hHeld
    clear hHeld
    obtain ⟨V4, hV4⟩ : ∃ V, V = v3.alloc (.cells #[.int .i64 n0, .string u0, .int .i64 q0, .int .i64 c0, .int .i64 n1, .string u1, .int .i64 q1, .int .i64 c1] 25) := ⟨_, rfl⟩
    rw [← hV4] at HF KB ⊢
    clear hV4
    have hbf := HF.out
    have XD := Lib.hid (XD.out.call hbf)
    have HR := Lib.hid (rdm R_Region_ok HR.out hbf)
    have HB0 := Lib.hid (HB0.out.trans (hbf.mono HB0.out.size))
    clear hbf HF
    obtain ⟨gt, hgt⟩ : ∃ q, q = v3.heap.size := ⟨_, rfl⟩
    rw [← hgt] at KB ⊢
    clear hgt
    have XT := KB
    clear KB
    go_wp2
    go_loopw [5, 3] (fun i m wr => ∃ k : Nat, k ≤ 2 ∧ i = .int .i64 k ∧ m = .int .i64 (bestN L x0 x1 k) ∧ Hid (Below W.heap.size W wr) ∧ Hid (Below V4.heap.size V4 wr)) (fun i _ _ => 2 - (intOf i).toNat)
    case atStart => exact ⟨0, by omega, rfl, rfl, HB0, Lib.hid (Below.refl _ _)⟩
    case round =>
      obtain ⟨k, hk, rfl, rfl, HB0, HV⟩ := hrel
      obtain ⟨wz, hwz⟩ : ∃ w, w = wr := ⟨_, rfl⟩
      subst hwz
      have HR := Lib.hid (rdm R_Region_ok HR.out HV.out)
      have XD := Lib.hid (XD.out.call HV.out)
      have XT := Lib.hid (XT.out.call HV.out)
      obtain ⟨m, hm⟩ : ∃ m, bestN L x0 x1 k = m := ⟨_, rfl⟩
      have HM := Lib.hid hm
      rw [hm]
      clear hm
      by_cases hlt : k < 2
      rotate_left
      · obtain rfl : k = 2 := by omega
        go_wp2
        go_ret
        exact ⟨by rw [HEQ.out, HM.out] <;> rfl, HB0.out⟩
      obtain ⟨⟨⟨n, u⟩, q, c⟩, hs⟩ : ∃ x, slotR (slN x0 x1 k) = x := ⟨_, rfl⟩
      have hft : wz.cell? ⟨gt, k * 4, none⟩ = some (.int .i64 n) ∧ wz.cell? ⟨gt, k * 4 + 3, none⟩ = some (.int .i64 c) := by
        rcases (show k = 0 ∨ k = 1 by omega) with rfl | rfl
        · have h9 : slotR x0 = ((n, u), q, c) := hs
          rw [HE0.out] at h9
          simp only [Prod.mk.injEq] at h9
          rw [← h9.1.1, ← h9.2.2]
          exact ⟨XT.out.at_ 0 rfl, XT.out.at_ 3 rfl⟩
        · have h9 : slotR x1 = ((n, u), q, c) := hs
          rw [HE1.out] at h9
          simp only [Prod.mk.injEq] at h9
          rw [← h9.1.1, ← h9.2.2]
          exact ⟨XT.out.at_ 4 rfl, XT.out.at_ 7 rfl⟩
      have HFT0 := Lib.hid hft.1
      have ft0 := hft.1
      have ft3 := hft.2
      have HGT := Lib.hid XT.out.lt
      have HSK := Lib.hid hs
      have hk0 : (0 : Int) ≤ (k : Int) := Int.natCast_nonneg _
      have hk2 : (k : Int) < 2 := by omega
      have d0 := XD.out.at_ 0 rfl
      have d1 := XD.out.at_ 1 rfl
      have HIN := Lib.hid (show InR L n c 1 (c == 0) from by
        by_cases hc : c = 0
        · exact .inl ⟨by simpa using hc, hc, fun i x h1 h2 _ => by omega⟩
        · exact .inr ⟨by simpa using hc, fun h => hc h.1⟩)
      clear hft hs
      obtain ⟨cb, hcb⟩ : ∃ b, (c == 0) = b := ⟨_, rfl⟩
      rw [hcb] at HIN
      go_wp2
      go_loopw [7, 6] (fun r al wr => ∃ (j : Nat) (ab : Bool), 1 ≤ j ∧ j ≤ L.length ∧ r = .int .i64 j ∧ al = .bool ab ∧ Hid (InR L n c j ab) ∧ Hid (Below W.heap.size W wr) ∧ Hid (Below wz.heap.size wz wr)) (fun r _ _ => L.length - (intOf r).toNat)
      case atStart => exact ⟨1, cb, by omega, hl0N, rfl, rfl, HIN, HB0, Lib.hid (Below.refl _ _)⟩
      case round =>
        obtain ⟨j, ab, hj1, hj2, rfl, rfl, HIJ, HB1, HV1⟩ := hrel
        obtain ⟨wq, hwq⟩ : ∃ w, w = wr := ⟨_, rfl⟩
        subst hwq
        have HRQ := Lib.hid (rdm R_Region_ok HR.out HV1.out)
        have XDQ := Lib.hid (XD.out.call HV1.out)
        have HFQ := Lib.hid ((HV1.out.cell (p := ⟨gt, k * 4, none⟩) HGT.out).trans HFT0.out)
        have HGQ := Lib.hid (Nat.lt_of_lt_of_le HGT.out HV1.out.size)
        have HVQ := Lib.hid (HV.out.trans (HV1.out.mono HV.out.size))
        clear d0 d1 ft0 ft3
        have d0 := XDQ.out.at_ 0 rfl
        have d1 := XDQ.out.at_ 1 rfl
        have ft0 := HFQ.out
        by_cases hjl : j < L.length
        · have hdj : decide ((j : Int) < (L.length : Int)) = true := decide_eq_true (by omega)
          cases ab with
          | false =>
            have HN := Lib.hid (show bestN L x0 x1 (k + 1) = m from by
              rw [← HM.out]
              rcases HIJ.out with h | h
              · cases h.1
              · exact bestN_code HSK.out h.2)
            go_wp2
            go_roundw
            case rel => exact ⟨k + 1, by omega, by go_num, by rw [HN.out], HB1, HVQ⟩
            case measure => (simp [intOf]) <;> omega
          | true =>
            have hin : c = 0 ∧ ∀ (i : Nat) (x : D_Region), 1 ≤ i → i < j → L[i]? = some x → holdX x n = true := by
              rcases HIJ.out with h | h
              · exact h.2
              · cases h.1
            have HINJ := Lib.hid hin
            clear hin
            obtain ⟨⟨y0, y1, y2⟩, hy⟩ := el_some hjl
            have HY := Lib.hid hy
            have HOF := Lib.hid (fun w (hw : RdSl R_Region w w.heap.size L (some ⟨g, o, none⟩) ca) => of_s (p := p) (seq := n) HY.out hw)
            have hcode := ofR_code (y0, y1, y2) n
            obtain ⟨⟨⟨n9, u9⟩, q9, c9⟩, h9⟩ : ∃ y, ofR (y0, y1, y2) n = y := ⟨_, rfl⟩
            rw [h9] at HOF hcode
            simp only [foV_mk] at HOF
            simp only at hcode
            have hfld : ∀ w : World, (Instr.field 25 (.agg #[.int .i64 n9, .string u9, .int .i64 q9, .int .i64 c9]) 2).run Tryd.prog w = .ok (.int .i64 c9) w := fun w => by kernel_rfl
            have HIJ2 := Lib.hid (show InR L n c (j + 1) (c9 == 0) from by
              cases hx9 : holdX (y0, y1, y2) n with
              | true =>
                rw [hx9] at hcode
                refine .inl ⟨by rw [hcode]; rfl, HINJ.out.1, fun i x h1 h2 h3 => ?_⟩
                by_cases e : i = j
                · subst e
                  have h4 := HY.out
                  rw [h3] at h4
                  injection h4 with h4
                  subst h4
                  exact hx9
                · exact HINJ.out.2 i x h1 (by omega) h3
              | false =>
                rw [hx9] at hcode
                refine .inr ⟨by rw [hcode]; rfl, fun h => ?_⟩
                have h4 := allB_no HY.out hx9
                rw [h.2] at h4
                cases h4)
            have hj0 : (0 : Int) ≤ (j : Int) := Int.natCast_nonneg _
            clear hy h9 hcode
            obtain ⟨cb9, hcb9⟩ : ∃ b, (c9 == 0) = b := ⟨_, rfl⟩
            rw [hcb9] at HIJ2
            go_upto_region 12 with fail
            refine wp_region_held_drew (S := (fun V => Below (wq).heap.size (wq) V)) (by kernel_rfl) ((Below.refl _ _).drew) (fun hHeld => ?_)
            refine tk 0 hHeld ?_ (hy := fun w hSw => by (try dsimp only at hSw); have k0 := (hSw.cell (p := ⟨W.heap.size, 0, none⟩) XDQ.out.lt).trans (XDQ.out.at_ 0 rfl); have k1 := (hSw.cell (p := ⟨W.heap.size, 1, none⟩) XDQ.out.lt).trans (XDQ.out.at_ 1 rfl); clear hSw; go_simp; try with_reducible rfl)
            refine tk 1 hHeld ?_
            refine tk 2 hHeld ?_
            refine tk 3 hHeld ?_
            refine tk 4 hHeld ?_
            refine tk 5 hHeld ?_
            refine tk 6 hHeld ?_
            refine tk 7 hHeld ?_ (hy := fun w hSw => by (try dsimp only at hSw); have k0 := (hSw.cell (p := ⟨gt, k * 4, none⟩) HGQ.out).trans HFQ.out; clear hSw; go_simp; try with_reducible rfl)
            refine rd1 8 (fun K hK => ?_)
            go_simp
            go_at_call 51
            refine (HOF.out _ (rdm R_Region_ok HRQ.out hHeld)).mono ?_
            rintro e v8 ⟨rfl, hb⟩
            refine hK.out _ _ (hHeld.trans (hb.mono hHeld.size)) (fun hHeld => ?_)
            clear hK K hb
            refine tk 9 hHeld ?_
            refine tk 10 hHeld ?_
            refine tk 11 hHeld ?_
            refine rd0 ?_
            have HF := Lib.hid hHeld
            clear hHeld
            have hbf := HF.out
            have HB2 := Lib.hid (HB1.out.trans (hbf.mono HB1.out.size))
            have HV2 := Lib.hid (HV1.out.trans (hbf.mono HV1.out.size))
            clear hbf HF d0 d1 ft0
            go_wp2
            go_roundw
            case rel => exact ⟨j + 1, cb9, by omega, by omega, by go_num, by first | rfl | rw [hcb9], HIJ2, HB2, HV2⟩
            case measure => (simp [intOf]) <;> omega
        · obtain rfl : j = L.length := by omega
          have hdj : decide ((L.length : Int) < (L.length : Int)) = false := decide_eq_false (by omega)
          cases ab with
          | false =>
            have HN := Lib.hid (show bestN L x0 x1 (k + 1) = m from by
              rw [← HM.out]
              rcases HIJ.out with h | h
              · cases h.1
              · exact bestN_code HSK.out h.2)
            go_wp2
            go_roundw
            case rel => exact ⟨k + 1, by omega, by go_num, by rw [HN.out], HB1, HVQ⟩
            case measure => (simp [intOf]) <;> omega
          | true =>
            have hin : c = 0 ∧ ∀ (i : Nat) (x : D_Region), 1 ≤ i → i < L.length → L[i]? = some x → holdX x n = true := by
              rcases HIJ.out with h | h
              · exact h.2
              · cases h.1
            have HN := Lib.hid (show bestN L x0 x1 (k + 1) = max m n from by
              have hsk := HSK.out
              rw [hin.1] at hsk
              rw [← HM.out]
              refine bestN_yes hsk (allB_yes fun i x hx => ?_)
              by_cases e : i = 0
              · subst e
                rw [HX0.out] at hx
                injection hx with hx
                subst hx
                exact own_hold hsk
              · exact hin.2 i x (by omega) (List.getElem?_eq_some_iff.1 hx).1 hx)
            clear hin
            go_wp2_with fail
            refine (max_s m n _).mono ?_
            rintro e w8 ⟨rfl, rfl⟩
            go_wp2
            go_roundw
            case rel => exact ⟨k + 1, by omega, by go_num, by rw [HN.out], HB1, HVQ⟩
            case measure => (simp [intOf]) <;> omega
end Go.Proofs.YtdedomfocljhaaaDoor.FrC
namespace Go.Proofs.YtdedomfocljhaaaDoor.RepC
open Go.RowKit RowC ValC SpanC KeptC
set_option linter.unusedVariables false
set_option linter.unusedSimpArgs false

def IsI (v : Int) (w : World) (e : Ending) (w' : World) : Prop := e = .returned (.int .i64 v) ∧ Below w.heap.size w w'
theorem isI_elim {v : Int} {w : World} {e : Ending} {w' : World} (h : IsI v w e w') : e = .returned (.int .i64 v) ∧ Below w.heap.size w w' := h
theorem gdb_spec {d : D_Disk} {cs : List Value} {W : World} (h : R_Disk.rd W W.heap.size d cs) : Calls Tryd.prog 25 #[.agg cs.toArray] W (IsI (FrC.baseV d) W) := by
  obtain ⟨L, p⟩ := d
  obtain ⟨a, c, rfl, k⟩ := rd_Disk h
  exact FrC.base_s k
theorem gdb_impl {d : D_Disk} {cs : List Value} {W : World} (hD : GetC.Door W) (h : R_Disk.rd W W.heap.size d cs) : Calls Tryd.prog 26 #[.agg cs.toArray] W (IsI (FrC.baseV d) W) := by
  obtain ⟨L, p⟩ := d
  obtain ⟨a, c, rfl, k⟩ := rd_Disk h
  exact FrC.base_i k hD
end Go.Proofs.YtdedomfocljhaaaDoor.RepC
