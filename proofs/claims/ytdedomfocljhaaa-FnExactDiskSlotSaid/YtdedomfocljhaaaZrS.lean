/- l16Copy, l16Code, l16Ill, DiskWipe of the model: contracts. -/
import Derived.Test.YtdedomfocljhaaaTk
import Derived.Test.YtdedomfocljhaaaTk
import Derived.Test.YtdedomfocljhaaaZrV
namespace Go.Proofs.Ytdedomfocljhaaa.ChC
open Go.RowKit SpanC KeptC RepC ValC RowC
set_option linter.unusedVariables false
set_option linter.unusedSimpArgs false
set_option maxRecDepth 100000

set_option maxHeartbeats 1600000 in
theorem copy_s {L : List D_Region} {p : Int} {a : Option Addr} {ca : Nat} {W : World} (hL : RdSl R_Region W W.heap.size L a ca) (hp : 0 < L.length) (hn : L.length ≤ 2000000) : Calls Try.prog 64 #[.agg #[.slice a L.length ca, .int .i64 p]] W (CopyD L p W) := by
  have HR := Lib.hid hL
  have hln : L.length ≤ 9223372036854775807 := by have h1 := hL.1; have h2 := hL.2.1; unfold maxLen at h2; omega
  clear hL
  obtain ⟨w0, hw0⟩ : ∃ w, w = (W.alloc (.cells #[.slice a L.length ca, .int .i64 p] 47)).alloc (.cells #[.slice none 0 0, .int .i64 0] 47) := ⟨_, rfl⟩
  have HB0 := Lib.hid (show Below W.heap.size W w0 from by rw [hw0]; exact ((Below.refl _ _).alloc (Nat.le_refl _) _).alloc (by simp) _)
  have hq9 : Blk w0 W.heap.size 47 #[.slice a L.length ca, .int .i64 p] := by
    have h9 := Blk.new W 47 #[.slice a L.length ca, .int .i64 p]
    try simp only [World.size_alloc] at h9
    rw [hw0]
    exact (h9.alloc _)
  have XD := Lib.hid hq9
  clear hq9
  have hq9 : Blk w0 (W.heap.size + 1) 47 #[.slice none 0 0, .int .i64 0] := by
    have h9 := Blk.new (W.alloc (.cells #[.slice a L.length ca, .int .i64 p] 47)) 47 #[.slice none 0 0, .int .i64 0]
    try simp only [World.size_alloc] at h9
    rw [hw0]
    exact h9
  have XO := Lib.hid hq9
  clear hq9
  have HR := Lib.hid (rdG R_Region_ok HR.out HB0.out)
  have hs0 : w0.heap.size = W.heap.size + 1 + 1 := by rw [hw0]; simp
  obtain ⟨w1, hw1⟩ : ∃ u, u = (w0.alloc (.cells #[] 77)).drew := ⟨_, rfl⟩
  have hb01 : Below w0.heap.size w0 w1 := by rw [hw1]; exact ((Below.refl _ _).alloc (Nat.le_refl _) _).drew
  obtain ⟨v', w2, hr, hrow, hb2⟩ := GRow.more (L := []) (show GRow w1 w0.heap.size (.slice (some ⟨w0.heap.size, 0, none⟩) 0 0) [] from by rw [hw1]; exact (GRow.made w0).call (Below.refl _ _).drew) (rdG R_Region_ok HR.out hb01) (by simp only [List.length_nil]; omega)
  obtain ⟨g, c2, rfl, hg1, hg2, hO⟩ := hrow.own (by simpa using hp)
  simp only [List.nil_append] at hr hO
  have HRUN := Lib.hid hr
  have HO := Lib.hid hO
  have HG := Lib.hid (show W.heap.size + 1 < g ∧ g < w2.heap.size from ⟨by omega, hg2⟩)
  have HBW1 := Lib.hid (HB0.out.trans (hb01.mono HB0.out.size))
  have HBW2 := Lib.hid (HBW1.out.trans (hb2.mono (by have := HBW1.out.size; have := HB0.out.size; omega)))
  have HXD1 := Lib.hid (XD.out.call hb01)
  have HXD2 := Lib.hid (show Blk w2 W.heap.size 47 #[.slice a L.length ca, .int .i64 p] from (hb2.block _ (by omega)).trans HXD1.out)
  have HXO1 := Lib.hid (XO.out.call hb01)
  have HXO2 := Lib.hid (show Blk w2 (W.heap.size + 1) 47 #[.slice none 0 0, .int .i64 0] from (hb2.block _ (by omega)).trans HXO1.out)
  have HOFF := Lib.hid (putCells_off (W.heap.size + 1) [.slice (some ⟨g, 0, none⟩) L.length c2, .int .i64 p] w2 0)
  have HXD3 := Lib.hid (HXD2.out.off HOFF.out HXD2.out.lt (by omega))
  have HST := Lib.hid (copyD_put (L := L) (p := p) (W := W) (by omega) HBW2.out HG.out.1 HG.out.2 HO.out HOFF.out)
  clear hr hrow hb2 hO hg1 hg2 hb01 hs0
  go_enter Try.func64, Try.ntmps64
  go_upto_region 1 with fail
  rw [← hw0]
  clear hw0
  refine wp_region_held_drew (S := (fun V => Blk V W.heap.size 47 #[.slice a L.length ca, .int .i64 p])) (by kernel_rfl) (XD.out.call (Below.refl _ w0).drew) (fun hHeld => ?_)
  refine tk 1 hHeld ?_
  refine tk 2 hHeld ?_ (hy := fun w hSw => by (try dsimp only at hSw); have k0 := hSw.at_ 0 rfl; clear hSw; go_simp; try with_reducible rfl)
  refine tk 4 hHeld ?_
  refine tk 5 hHeld ?_ (hy := fun w hSw => by (try dsimp only at hSw); have k0 := hSw.at_ 1 rfl; clear hSw; go_simp; try with_reducible rfl)
  refine rd1 0 (fun K hK => ?_)
  go_simp
  rw [← hw1]
  clear hw1
  refine hK.out _ _ HXD1.out (fun hHeld => ?_)
  clear hK K
  refine rd1 3 (fun K hK => ?_)
  refine step_app rfl (.tmp 3) (.tmp 5) 45 rfl rfl rfl HRUN.out ?_
  refine hK.out _ _ HXD2.out (fun hHeld => ?_)
  clear hK K
  refine tk 6 hHeld ?_
  refine rd1 7 (fun K hK => ?_)
  have q0 := HXO2.out.at_ 0 rfl
  have q1 := HXO2.out.at_ 1 rfl
  have f0 := HXO2.out.soft 0
  have f1 := HXO2.out.soft 1
  go_simp
  refine hK.out _ _ HXD3.out (fun hHeld => ?_)
  clear hK K q0 q1 f0 f1
  refine rd0 ?_
  clear hHeld
  have HXO3 := Lib.hid ((HXO2.out.set 0 (.slice (some ⟨g, 0, none⟩) L.length c2)).set 1 (.int .i64 p))
  have r0 := HXO3.out.at_ 0 rfl
  have r1 := HXO3.out.at_ 1 rfl
  go_wp2
  exact bodyPost_ret (v := .agg #[.slice (some ⟨g, 0, none⟩) L.length c2, .int .i64 p]) (by simp [results, Try.results64, go_sem, *]) rfl HST.out
set_option maxHeartbeats 1600000 in
theorem code_s {L : List D_Region} {p : Int} {a : Option Addr} {ca : Nat} {W : World} (hL : RdSl R_Region W W.heap.size L a ca) {r c : Int} (hc : codeV L p r = c) : Calls Try.prog 62 #[.agg #[.slice a L.length ca, .int .i64 p], .int .i64 r] W fun e w' => e = .returned (.int .i64 c) ∧ Below W.heap.size W w' := by
  subst hc
  have HR := Lib.hid hL
  have hln : L.length ≤ 9223372036854775807 := by have h1 := hL.1; have h2 := hL.2.1; unfold maxLen at h2; omega
  clear hL
  obtain ⟨b, hb⟩ : ∃ b, diskB L p = b := ⟨_, rfl⟩
  have HBQ := Lib.hid hb
  clear hb
  obtain ⟨w0, hw0⟩ : ∃ w, w = W.alloc (.cells #[.slice a L.length ca, .int .i64 p] 47) := ⟨_, rfl⟩
  have HB0 := Lib.hid (show Below W.heap.size W w0 from by rw [hw0]; exact (Below.refl _ _).alloc (Nat.le_refl _) _)
  have hq9 : Blk w0 W.heap.size 47 #[.slice a L.length ca, .int .i64 p] := by
    have h9 := Blk.new W 47 #[.slice a L.length ca, .int .i64 p]
    try simp only [World.size_alloc] at h9
    rw [hw0]
    exact h9
  have XD := Lib.hid hq9
  clear hq9
  have HR := Lib.hid (rdG R_Region_ok HR.out HB0.out)
  go_enter Try.func62, Try.ntmps62
  go_upto_region 1 with fail
  rw [← hw0]
  clear hw0
  have XD_q0 := XD.out.at_ 0 rfl
  have XD_q1 := XD.out.at_ 1 rfl
  go_wp2_with fail
  refine (dr_sb HBQ.out HR.out).mono ?_
  rintro e v1 ⟨rfl, hb⟩
  clear XD_q0 XD_q1
  have XD := Lib.hid (XD.out.call hb)
  have HR := Lib.hid (rdG R_Region_ok HR.out hb)
  have HB0 := Lib.hid (HB0.out.trans (hb.mono HB0.out.size))
  clear hb
  have XD_q0 := XD.out.at_ 0 rfl
  have XD_q1 := XD.out.at_ 1 rfl
  cases b with
  | false =>
    have HE := Lib.hid (codeV_form (r := r) HBQ.out)
    go_wp2
    exact bodyPost_ret (v := .int .i64 1) (by simp [results, Try.results62, go_sem, *]) rfl ⟨by rw [HE.out], HB0.out⟩
  | true =>
    by_cases h0 : 0 ≤ r
    rotate_left
    · have hd0 : decide (r < 0) = true := decide_eq_true (by omega)
      have HE := Lib.hid (codeV_none HBQ.out (fun h => h0 h.1))
      go_wp2
      exact bodyPost_ret (v := .int .i64 6) (by simp [results, Try.results62, go_sem, *]) rfl ⟨by rw [HE.out], HB0.out⟩
    have hd0 : decide (r < 0) = false := decide_eq_false (by omega)
    by_cases h1 : r < (L.length : Int)
    rotate_left
    · have hd1 : decide ((L.length : Int) ≤ r) = true := decide_eq_true (by omega)
      have HE := Lib.hid (codeV_none HBQ.out (fun h => h1 h.2))
      go_wp2
      exact bodyPost_ret (v := .int .i64 6) (by simp [results, Try.results62, go_sem, *]) rfl ⟨by rw [HE.out], HB0.out⟩
    have hd1 : decide ((L.length : Int) ≤ r) = false := decide_eq_false (by omega)
    have HRR := Lib.hid (And.intro h0 h1)
    clear h0 h1
    by_cases h2 : p = 0
    · have hd2 : (p == 0) = true := by simpa using h2
      have H2 := Lib.hid h2
      clear h2
      have HE := Lib.hid (codeV_down HBQ.out HRR.out H2.out)
      go_wp2
      exact bodyPost_ret (v := .int .i64 12) (by simp [results, Try.results62, go_sem, *]) rfl ⟨by rw [HE.out], HB0.out⟩
    · have hd2 : (p == 0) = false := by simpa using h2
      have H2 := Lib.hid h2
      clear h2
      have HE := Lib.hid (codeV_ok HBQ.out HRR.out H2.out)
      go_wp2
      exact bodyPost_ret (v := .int .i64 0) (by simp [results, Try.results62, go_sem, *]) rfl ⟨by rw [HE.out], HB0.out⟩
set_option maxHeartbeats 1600000 in
theorem ill_s {L : List D_Region} {p : Int} {a : Option Addr} {ca : Nat} {W : World} (hL : RdSl R_Region W W.heap.size L a ca) {c : Int} (hcn : c = 12 → 0 < L.length ∧ L.length ≤ 2000000) : Calls Try.prog 63 #[.agg #[.slice a L.length ca, .int .i64 p], .int .i64 c] W (OutD (illV c L p) W) := by
  have HR := Lib.hid hL
  have hln : L.length ≤ 9223372036854775807 := by have h1 := hL.1; have h2 := hL.2.1; unfold maxLen at h2; omega
  clear hL
  obtain ⟨w0, hw0⟩ : ∃ w, w = (W.alloc (.cells #[.slice a L.length ca, .int .i64 p] 47)).alloc (.cells #[.slice none 0 0, .int .i64 0, .int .i64 0] 55) := ⟨_, rfl⟩
  have HB0 := Lib.hid (show Below W.heap.size W w0 from by rw [hw0]; exact ((Below.refl _ _).alloc (Nat.le_refl _) _).alloc (by simp) _)
  have hq9 : Blk w0 W.heap.size 47 #[.slice a L.length ca, .int .i64 p] := by
    have h9 := Blk.new W 47 #[.slice a L.length ca, .int .i64 p]
    try simp only [World.size_alloc] at h9
    rw [hw0]
    exact (h9.alloc _)
  have XD := Lib.hid hq9
  clear hq9
  have hq9 : Blk w0 (W.heap.size + 1) 55 #[.slice none 0 0, .int .i64 0, .int .i64 0] := by
    have h9 := Blk.new (W.alloc (.cells #[.slice a L.length ca, .int .i64 p] 47)) 55 #[.slice none 0 0, .int .i64 0, .int .i64 0]
    try simp only [World.size_alloc] at h9
    rw [hw0]
    exact h9
  have XO := Lib.hid hq9
  clear hq9
  have HR := Lib.hid (rdG R_Region_ok HR.out HB0.out)
  go_enter Try.func63, Try.ntmps63
  go_upto_region 1 with fail
  rw [← hw0]
  clear hw0
  have XD_q0 := XD.out.at_ 0 rfl
  have XD_q1 := XD.out.at_ 1 rfl
  have XO_q0 := XO.out.at_ 0 rfl
  have XO_q1 := XO.out.at_ 1 rfl
  have XO_q2 := XO.out.at_ 2 rfl
  have XO_s0 := XO.out.soft 0
  have XO_s1 := XO.out.soft 1
  have XO_s2 := XO.out.soft 2
  by_cases hc : c = 12
  rotate_left
  · have hcb : (c == 12) = false := by simpa using hc
    have HV := Lib.hid (show illV c L p = (([], 0), c) from if_neg hc)
    have HST := Lib.hid (outD_put (d := (([], 0), c)) (p := 0) (c := c) (W := W) rfl rfl rfl (show W.heap.size ≤ W.heap.size + 1 by omega) HB0.out (S := fun _ => False) (fun k h => h.elim) own_nil (putCells_off (W.heap.size + 1) [.slice none 0 0, .int .i64 0, .int .i64 c] w0 0))
    go_wp2
    exact bodyPost_ret (v := .agg #[.slice none 0 0, .int .i64 0, .int .i64 c]) (by simp [results, Try.results63, go_sem, *]) rfl (by rw [HV.out]; exact HST.out)
  subst hc
  have HPN := Lib.hid (hcn rfl)
  clear hcn
  go_wp2_with fail
  refine (copy_s HR.out HPN.out.1 HPN.out.2).mono ?_
  rintro e v1 h
  clear XD_q0 XD_q1 XO_q0 XO_q1 XO_q2 XO_s0 XO_s1 XO_s2
  obtain ⟨g, c2, rfl, hg1, hg2, hO, hb⟩ := copyD_elim h
  have HO := Lib.hid hO
  have HG := Lib.hid (And.intro hg1 hg2)
  have HLX := Lib.hid XO.out.lt
  clear h hg1 hg2 hO
  have XD := Lib.hid (XD.out.call hb)
  have XO := Lib.hid (XO.out.call hb)
  have HR := Lib.hid (rdG R_Region_ok HR.out hb)
  have HB0 := Lib.hid (HB0.out.trans (hb.mono HB0.out.size))
  clear hb
  have XO_q0 := XO.out.at_ 0 rfl
  have XO_q1 := XO.out.at_ 1 rfl
  have XO_q2 := XO.out.at_ 2 rfl
  have XO_s0 := XO.out.soft 0
  have XO_s1 := XO.out.soft 1
  have XO_s2 := XO.out.soft 2
  have HV := Lib.hid (show illV 12 L p = ((L, p), 12) from if_pos rfl)
  have HST := Lib.hid (outD_put (d := ((L, p), 12)) (p := p) (c := 12) (W := W) rfl rfl rfl (show W.heap.size ≤ W.heap.size + 1 by omega) HB0.out (S := fun k => k = g) (fun k h => by have := HG.out; have := HLX.out; omega) HO.out (putCells_off (W.heap.size + 1) [.slice (some ⟨g, 0, none⟩) L.length c2, .int .i64 p, .int .i64 12] v1 0))
  go_wp2
  exact bodyPost_ret (v := .agg #[.slice (some ⟨g, 0, none⟩) L.length c2, .int .i64 p, .int .i64 12]) (by simp [results, Try.results63, go_sem, *]) rfl (by rw [HV.out]; exact HST.out)
set_option maxHeartbeats 3200000 in
theorem wipe_s {L : List D_Region} {p : Int} {a : Option Addr} {ca : Nat} {W : World} (hL : RdSl R_Region W W.heap.size L a ca) {r : Int} : Calls Try.prog 36 #[.agg #[.slice a L.length ca, .int .i64 p], .int .i64 r] W (OutD (chgV wipeF L p r) W) := by
  have HR := Lib.hid hL
  have hln : L.length ≤ 9223372036854775807 := by have h1 := hL.1; have h2 := hL.2.1; unfold maxLen at h2; omega
  clear hL
  obtain ⟨cd, hcd⟩ : ∃ c, codeV L p r = c := ⟨_, rfl⟩
  have HCD := Lib.hid hcd
  clear hcd
  obtain ⟨w0, hw0⟩ : ∃ w, w = (W.alloc (.cells #[.slice a L.length ca, .int .i64 p] 47)).alloc (.cells #[.slice none 0 0, .int .i64 0, .int .i64 0] 55) := ⟨_, rfl⟩
  have HB0 := Lib.hid (show Below W.heap.size W w0 from by rw [hw0]; exact ((Below.refl _ _).alloc (Nat.le_refl _) _).alloc (by simp) _)
  have hq9 : Blk w0 W.heap.size 47 #[.slice a L.length ca, .int .i64 p] := by
    have h9 := Blk.new W 47 #[.slice a L.length ca, .int .i64 p]
    try simp only [World.size_alloc] at h9
    rw [hw0]
    exact (h9.alloc _)
  have XD := Lib.hid hq9
  clear hq9
  have hq9 : Blk w0 (W.heap.size + 1) 55 #[.slice none 0 0, .int .i64 0, .int .i64 0] := by
    have h9 := Blk.new (W.alloc (.cells #[.slice a L.length ca, .int .i64 p] 47)) 55 #[.slice none 0 0, .int .i64 0, .int .i64 0]
    try simp only [World.size_alloc] at h9
    rw [hw0]
    exact h9
  have XO := Lib.hid hq9
  clear hq9
  have HR := Lib.hid (rdG R_Region_ok HR.out HB0.out)
  go_enter Try.func36, Try.ntmps36
  go_upto_region 1 with fail
  rw [← hw0]
  clear hw0
  have XD_q0 := XD.out.at_ 0 rfl
  have XD_q1 := XD.out.at_ 1 rfl
  go_wp2_with fail
  refine (code_s HR.out HCD.out).mono ?_
  rintro e v1 ⟨rfl, hb⟩
  clear XD_q0 XD_q1
  have XD := Lib.hid (XD.out.call hb)
  have XO := Lib.hid (XO.out.call hb)
  have HR := Lib.hid (rdG R_Region_ok HR.out hb)
  have HB0 := Lib.hid (HB0.out.trans (hb.mono HB0.out.size))
  clear hb
  cases hcc : (cd != 0) with
  | true =>
    have XD_q0 := XD.out.at_ 0 rfl
    have XD_q1 := XD.out.at_ 1 rfl
    have HV := Lib.hid (chgV_ill (F := wipeF) HCD.out (by simpa using hcc))
    go_wp2_with fail
    refine (ill_s (p := p) HR.out (c := cd) (fun e => by have h := codeV_of (.inr (HCD.out.trans e)); have := h.1.1; omega)).mono ?_
    rintro e v2 h
    clear XD_q0 XD_q1
    obtain ⟨a2, c2, S2, rfl, hS2, hO, hb⟩ := outD_elim h
    have HO := Lib.hid hO
    have HS2 := Lib.hid hS2
    have HLX := Lib.hid XO.out.lt
    clear h hS2 hO
    have XD := Lib.hid (XD.out.call hb)
    have XO := Lib.hid (XO.out.call hb)
    have HR := Lib.hid (rdG R_Region_ok HR.out hb)
    have HB0 := Lib.hid (HB0.out.trans (hb.mono HB0.out.size))
    clear hb
    have XO_q0 := XO.out.at_ 0 rfl
    have XO_q1 := XO.out.at_ 1 rfl
    have XO_q2 := XO.out.at_ 2 rfl
    have XO_s0 := XO.out.soft 0
    have XO_s1 := XO.out.soft 1
    have XO_s2 := XO.out.soft 2
    have HST := Lib.hid (outD_put (d := illV cd L p) (W := W) rfl rfl rfl (show W.heap.size ≤ W.heap.size + 1 by omega) HB0.out (S := S2) (fun k hk => by have := HS2.out k hk; have := HLX.out; omega) HO.out (putCells_off (W.heap.size + 1) [.slice a2 (illV cd L p).1.1.length c2, .int .i64 (illV cd L p).1.2, .int .i64 (illV cd L p).2] v2 0))
    go_wp2
    exact bodyPost_ret (v := .agg #[.slice a2 (illV cd L p).1.1.length c2, .int .i64 (illV cd L p).1.2, .int .i64 (illV cd L p).2]) (by simp [results, Try.results36, go_sem, *]) rfl (by rw [HV.out]; exact HST.out)
  | false =>
    have hc0 : cd = 0 := by simpa using hcc
    subst hc0
    have hcs := codeV_of (.inl HCD.out)
    obtain ⟨k, rfl⟩ := Int.eq_ofNat_of_zero_le hcs.2.1
    have hkl : k < L.length := by have := hcs.2.2; omega
    obtain ⟨⟨x0, x1, x2⟩, hx⟩ := el_some hkl
    have HX := Lib.hid hx
    have HDP := Lib.hid hcs.1
    have HPW := Lib.hid (codeV_pow HCD.out)
    have HV := Lib.hid (chgV_at (F := wipeF) HCD.out hx)
    have HKL := Lib.hid hkl
    clear hcs hx hkl hcc
    have XD_q0 := XD.out.at_ 0 rfl
    have XD_q1 := XD.out.at_ 1 rfl
    go_wp2_with fail
    refine (copy_s (p := p) HR.out (by have := HKL.out; omega) (by have := HDP.out.1; omega)).mono ?_
    rintro e v2 h
    clear XD_q0 XD_q1
    obtain ⟨g, c2, rfl, hg1, hg2, hO, hb⟩ := copyD_elim h
    have HO := Lib.hid hO
    have HG := Lib.hid (And.intro hg1 hg2)
    have HLX := Lib.hid XO.out.lt
    clear h hg1 hg2 hO
    have XD := Lib.hid (XD.out.call hb)
    have XO := Lib.hid (XO.out.call hb)
    have HR := Lib.hid (rdG R_Region_ok HR.out hb)
    have HB0 := Lib.hid (HB0.out.trans (hb.mono HB0.out.size))
    clear hb
    obtain ⟨v3, hv3⟩ : ∃ V, V = v2.alloc (.cells #[.slice (some ⟨g, 0, none⟩) L.length c2, .int .i64 p] 47) := ⟨_, rfl⟩
    have hb : Below v2.heap.size v2 v3 := by rw [hv3]; exact (Below.refl _ _).alloc (Nat.le_refl _) _
    have hq9 : Blk v3 v2.heap.size 47 #[.slice (some ⟨g, 0, none⟩) L.length c2, .int .i64 p] := by rw [hv3]; exact Blk.new _ _ _
    have XD := Lib.hid (XD.out.call hb)
    have XO := Lib.hid (XO.out.call hb)
    have HR := Lib.hid (rdG R_Region_ok HR.out hb)
    have HB0 := Lib.hid (HB0.out.trans (hb.mono HB0.out.size))
    have XC := Lib.hid hq9
    have hbz3 := Lib.hid hb.size
    have hbk3 := Lib.hid (fun q (h : q < v2.heap.size) => hb.block q h)
    clear hb hq9
    go_upto_region 5 with fail
    rw [← hv3]
    clear hv3
    have HO := Lib.hid (HO.out.keep (hbk3.out g HG.out.2))
    obtain ⟨e0, e1, e2⟩ := (HO.out.cells HX.out).1
    have ef := (HO.out.cells HX.out).2.1 (k * 3 + 2)
    have hi0 : (0 : Int) ≤ (k : Int) := Int.natCast_nonneg _
    have hi1 : (k : Int) < (L.length : Int) := by have := HKL.out; omega
    have XC_q0 := XC.out.at_ 0 rfl
    have XC_q1 := XC.out.at_ 1 rfl
    go_upto_region 6 with fail
    obtain ⟨w6, hw6⟩ : ∃ u, u = v3.setCell ⟨g, k * 3 + 2, none⟩ (.string ⟨#[]⟩) := ⟨_, rfl⟩
    rw [← hw6]
    have HO6 := Lib.hid (show OwnG w6 g (L.set k (x0, x1, ⟨#[]⟩)) c2 from by rw [hw6]; exact HO.out.put (j := 2) HX.out (by omega) rfl ⟨(HO.out.cells HX.out).2.2.1, (HO.out.cells HX.out).2.2.2.1, Nat.zero_le _⟩)
    have hof : Off (fun q => q = g) v3 w6 := by rw [hw6]; exact (Off.refl (fun q => q = g) _).setCell (p := ⟨g, k * 3 + 2, none⟩) rfl _
    clear hw6 e0 e1 e2 ef
    clear XC_q0 XC_q1
    have XO := Lib.hid (XO.out.off hof XO.out.lt (by have := HG.out; have := HLX.out; omega))
    have XC := Lib.hid (XC.out.off hof XC.out.lt (by have := HG.out; omega))
    have HB6 := Lib.hid (HB0.out.trans (hof.below HB0.out.size (fun q hq => by have := HG.out; have := HLX.out; omega)))
    have HZ6 := Lib.hid (Nat.lt_of_lt_of_le HG.out.2 (Nat.le_trans hbz3.out hof.size))
    clear hof
    have XC_q0 := XC.out.at_ 0 rfl
    have XC_q1 := XC.out.at_ 1 rfl
    have XO_q0 := XO.out.at_ 0 rfl
    have XO_q1 := XO.out.at_ 1 rfl
    have XO_q2 := XO.out.at_ 2 rfl
    have XO_s0 := XO.out.soft 0
    have XO_s1 := XO.out.soft 1
    have XO_s2 := XO.out.soft 2
    have HST := Lib.hid (outD_put (d := ((L.set k (x0, x1, ⟨#[]⟩), p), 0)) (p := p) (c := 0) (W := W) List.length_set rfl rfl (show W.heap.size ≤ W.heap.size + 1 by omega) HB6.out (S := fun q => q = g) (fun q h => by have := HG.out; have := HLX.out; have := HZ6.out; omega) HO6.out (putCells_off (W.heap.size + 1) [.slice (some ⟨g, 0, none⟩) L.length c2, .int .i64 p, .int .i64 0] w6 0))
    go_wp2
    exact bodyPost_ret (v := .agg #[.slice (some ⟨g, 0, none⟩) L.length c2, .int .i64 p, .int .i64 0]) (by simp [results, Try.results36, go_sem, *]) rfl (by rw [HV.out]; exact HST.out)
end Go.Proofs.Ytdedomfocljhaaa.ChC
