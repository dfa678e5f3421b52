/- DiskSlot, in the program and in its model: contracts. -/
import Derived.Test.YtdedomfocljhaaaTk
import Derived.Test.YtdedomfocljhaaaTk
import Derived.Test.YtdedomfocljhaaaZrQ
import Derived.Test.YtdedomfocljhaaaZrS
import Derived.Test.YtdedomfocljhaaaFrB
namespace Go.Proofs.Ytdedomfocljhaaa.ChC
open Go.RowKit SpanC KeptC RepC ValC RowC
set_option linter.unusedVariables false
set_option linter.unusedSimpArgs false
set_option maxRecDepth 100000

def slotY (odd : Bool) (x : D_Region) (s : ByteArray) : D_Region := if odd = true then (x.1, s, x.2.2) else (s, x.2.1, x.2.2)
def slotI (odd : Bool) : Nat := if odd = true then 1 else 0
def slotF (odd : Bool) (n : Int) (u : ByteArray) (x : D_Region) (p : Int) : D_Region × Int × Int :=
  if FrC.frB n u = true then (slotY odd x (cutV p (FrC.bytesF n u)).1, (cutV p (FrC.bytesF n u)).2.1, (cutV p (FrC.bytesF n u)).2.2) else (x, p, 2)
theorem slotF_yes {odd : Bool} {n : Int} {u : ByteArray} {x : D_Region} {p : Int} (h : FrC.frB n u = true) : slotF odd n u x p = (slotY odd x (cutV p (FrC.bytesF n u)).1, (cutV p (FrC.bytesF n u)).2.1, (cutV p (FrC.bytesF n u)).2.2) := if_pos h
theorem slotF_no {odd : Bool} {n : Int} {u : ByteArray} {x : D_Region} {p : Int} (h : FrC.frB n u = false) : slotF odd n u x p = (x, p, 2) := if_neg (by rw [h]; decide)
theorem slotY_enc (odd : Bool) (x : D_Region) (s : ByteArray) : encG (slotY odd x s) = (encG x).set (slotI odd) (.string s) := by cases odd <;> rfl
theorem slotY_at (odd : Bool) (x : D_Region) (s : ByteArray) : (encG (slotY odd x s))[slotI odd]? = some (.string s) := by cases odd <;> rfl
theorem slotY_two (odd : Bool) (x : D_Region) (s u : ByteArray) : slotY odd (slotY odd x s) u = slotY odd x u := by cases odd <;> rfl
theorem slotY_small {odd : Bool} {x : D_Region} {s : ByteArray} (h : x.1.size ≤ maxLen ∧ x.2.1.size ≤ maxLen ∧ x.2.2.size ≤ maxLen) (hs : s.size ≤ maxLen) : (slotY odd x s).1.size ≤ maxLen ∧ (slotY odd x s).2.1.size ≤ maxLen ∧ (slotY odd x s).2.2.size ≤ maxLen := by
  cases odd
  · exact ⟨hs, h.2.1, h.2.2⟩
  · exact ⟨h.1, hs, h.2.2⟩
theorem slotI_lt (odd : Bool) : slotI odd < 3 := by cases odd <;> decide
theorem slot_any (odd : Bool) (g o : Nat) (w : World) : Calls Try.prog 69 #[.pointer (some ⟨g, o, none⟩), .bool odd] w fun e w' => e = .returned (.pointer (some ⟨g, o + slotI odd, none⟩)) ∧ w = w' := by
  cases odd
  · exact slot_no g o w
  · exact slot_yes g o w
theorem cutV_code (p : Int) (t : ByteArray) : (cutV p t).2.2 = 0 ∨ (cutV p t).2.2 = 12 := by
  unfold cutV
  split
  · exact .inl rfl
  · split
    · exact .inr rfl
    · exact .inl rfl
set_option maxHeartbeats 3200000 in
theorem dslot_s {L : List D_Region} {p : Int} {a : Option Addr} {ca : Nat} {W : World} (hL : RdSl R_Region W W.heap.size L a ca) {r : Int} {odd : Bool} {n : Int} {u : ByteArray} (hu : u.size ≤ maxLen) : Calls Try.prog 31 #[.agg #[.slice a L.length ca, .int .i64 p], .int .i64 r, .bool odd, .agg #[.int .i64 n, .string u]] W (OutD (chgV (slotF odd n u) L p r) W) := by
  have HR := Lib.hid hL
  have hln : L.length ≤ 9223372036854775807 := by have h1 := hL.1; have h2 := hL.2.1; unfold maxLen at h2; omega
  clear hL
  have HU := Lib.hid hu
  clear hu
  obtain ⟨cd, hcd⟩ : ∃ c, codeV L p r = c := ⟨_, rfl⟩
  have HCD := Lib.hid hcd
  clear hcd
  obtain ⟨w0, hw0⟩ : ∃ w, w = ((W.alloc (.cells #[.slice a L.length ca, .int .i64 p] 47)).alloc (.cells #[.int .i64 n, .string u] 26)).alloc (.cells #[.slice none 0 0, .int .i64 0, .int .i64 0] 55) := ⟨_, rfl⟩
  have HB0 := Lib.hid (show Below W.heap.size W w0 from by rw [hw0]; exact (((Below.refl _ _).alloc (Nat.le_refl _) _).alloc (by simp) _).alloc (by simp <;> omega) _)
  have hq9 : Blk w0 W.heap.size 47 #[.slice a L.length ca, .int .i64 p] := by
    have h9 := Blk.new W 47 #[.slice a L.length ca, .int .i64 p]
    try simp only [World.size_alloc] at h9
    rw [hw0]
    exact ((h9.alloc _).alloc _)
  have XD := Lib.hid hq9
  clear hq9
  have hq9 : Blk w0 (W.heap.size + 1) 26 #[.int .i64 n, .string u] := by
    have h9 := Blk.new (W.alloc (.cells #[.slice a L.length ca, .int .i64 p] 47)) 26 #[.int .i64 n, .string u]
    try simp only [World.size_alloc] at h9
    rw [hw0]
    exact (h9.alloc _)
  have XF := Lib.hid hq9
  clear hq9
  have hq9 : Blk w0 (W.heap.size + 1 + 1) 55 #[.slice none 0 0, .int .i64 0, .int .i64 0] := by
    have h9 := Blk.new ((W.alloc (.cells #[.slice a L.length ca, .int .i64 p] 47)).alloc (.cells #[.int .i64 n, .string u] 26)) 55 #[.slice none 0 0, .int .i64 0, .int .i64 0]
    try simp only [World.size_alloc] at h9
    rw [hw0]
    exact h9
  have XO := Lib.hid hq9
  clear hq9
  have HR := Lib.hid (rdG R_Region_ok HR.out HB0.out)
  go_enter Try.func31, Try.ntmps31
  go_upto_region 1 with fail
  rw [← hw0]
  clear hw0
  have XD_q0 := XD.out.at_ 0 rfl
  have XD_q1 := XD.out.at_ 1 rfl
  go_wp2_with fail
  refine (code_s HR.out HCD.out).mono ?_
  rintro e v1 ⟨rfl, hb⟩
  clear XD_q0 XD_q1
  have XD := Lib.hid (XD.out.call hb)
  have XF := Lib.hid (XF.out.call hb)
  have XO := Lib.hid (XO.out.call hb)
  have HR := Lib.hid (rdG R_Region_ok HR.out hb)
  have HB0 := Lib.hid (HB0.out.trans (hb.mono HB0.out.size))
  clear hb
  cases hcc : (cd != 0) with
  | true =>
    have XD_q0 := XD.out.at_ 0 rfl
    have XD_q1 := XD.out.at_ 1 rfl
    have HV := Lib.hid (chgV_ill (F := slotF odd n u) HCD.out (by simpa using hcc))
    go_wp2_with fail
    refine (ill_s (p := p) HR.out (c := cd) (fun e => by have h := codeV_of (.inr (HCD.out.trans e)); have := h.1.1; omega)).mono ?_
    rintro e v2 h
    clear XD_q0 XD_q1
    obtain ⟨a2, c2, S2, rfl, hS2, hO, hb⟩ := outD_elim h
    have HO := Lib.hid hO
    have HS2 := Lib.hid hS2
    have HLX := Lib.hid XO.out.lt
    clear h hS2 hO
    have XD := Lib.hid (XD.out.call hb)
    have XF := Lib.hid (XF.out.call hb)
    have XO := Lib.hid (XO.out.call hb)
    have HR := Lib.hid (rdG R_Region_ok HR.out hb)
    have HB0 := Lib.hid (HB0.out.trans (hb.mono HB0.out.size))
    clear hb
    have XO_q0 := XO.out.at_ 0 rfl
    have XO_q1 := XO.out.at_ 1 rfl
    have XO_q2 := XO.out.at_ 2 rfl
    have XO_s0 := XO.out.soft 0
    have XO_s1 := XO.out.soft 1
    have XO_s2 := XO.out.soft 2
    have HST := Lib.hid (outD_put (d := illV cd L p) (W := W) rfl rfl rfl (show W.heap.size ≤ W.heap.size + 1 + 1 by omega) HB0.out (S := S2) (fun k hk => by have := HS2.out k hk; have := HLX.out; omega) HO.out (putCells_off (W.heap.size + 1 + 1) [.slice a2 (illV cd L p).1.1.length c2, .int .i64 (illV cd L p).1.2, .int .i64 (illV cd L p).2] v2 0))
    go_wp2
    exact bodyPost_ret (v := .agg #[.slice a2 (illV cd L p).1.1.length c2, .int .i64 (illV cd L p).1.2, .int .i64 (illV cd L p).2]) (by simp [results, Try.results31, go_sem, *]) rfl (by rw [HV.out]; exact HST.out)
  | false =>
    have hc0 : cd = 0 := by simpa using hcc
    subst hc0
    have hcs := codeV_of (.inl HCD.out)
    obtain ⟨k, rfl⟩ := Int.eq_ofNat_of_zero_le hcs.2.1
    have hkl : k < L.length := by have := hcs.2.2; omega
    obtain ⟨⟨x0, x1, x2⟩, hx⟩ := el_some hkl
    have HX := Lib.hid hx
    have HDP := Lib.hid hcs.1
    have HPW := Lib.hid (codeV_pow HCD.out)
    have HV := Lib.hid (chgV_at (F := slotF odd n u) HCD.out hx)
    have HKL := Lib.hid hkl
    clear hcs hx hkl hcc
    have XF_q0 := XF.out.at_ 0 rfl
    have XF_q1 := XF.out.at_ 1 rfl
    go_wp2_with fail
    refine (FrC.bytes_s n u _ HU.out).mono ?_
    rintro e v2 ⟨rfl, hb⟩
    clear XF_q0 XF_q1
    have XD := Lib.hid (XD.out.call hb)
    have XF := Lib.hid (XF.out.call hb)
    have XO := Lib.hid (XO.out.call hb)
    have HR := Lib.hid (rdG R_Region_ok HR.out hb)
    have HB0 := Lib.hid (HB0.out.trans (hb.mono HB0.out.size))
    clear hb
    cases hfb : FrC.frB n u with
    | false =>
      have hbe := FrC.bytesF_no hfb
      rw [hbe]
      have HV := Lib.hid (HV.out.trans ((congrArg (putV L p k) (slotF_no hfb)).trans (if_neg (show ¬ ((2 : Int) = 0 ∨ (2 : Int) = 12) by decide))))
      clear hbe hfb
      have XO_q0 := XO.out.at_ 0 rfl
      have XO_q1 := XO.out.at_ 1 rfl
      have XO_q2 := XO.out.at_ 2 rfl
      have XO_s0 := XO.out.soft 0
      have XO_s1 := XO.out.soft 1
      have XO_s2 := XO.out.soft 2
      have HST := Lib.hid (outD_put (d := (([], 0), 2)) (p := 0) (c := 2) (W := W) rfl rfl rfl (show W.heap.size ≤ W.heap.size + 1 + 1 by omega) HB0.out (S := fun _ => False) (fun k h => h.elim) own_nil (putCells_off (W.heap.size + 1 + 1) [.slice none 0 0, .int .i64 0, .int .i64 2] v2 0))
      go_wp2
      exact bodyPost_ret (v := .agg #[.slice none 0 0, .int .i64 0, .int .i64 2]) (by simp [results, Try.results31, go_sem, *]) rfl (by rw [HV.out]; exact HST.out)
    | true =>
      have HV := Lib.hid (HV.out.trans (congrArg (putV L p k) (slotF_yes hfb)))
      obtain ⟨t, ht⟩ : ∃ t, FrC.bytesF n u = t := ⟨_, rfl⟩
      have hne : ¬ t = ⟨#[]⟩ := fun e => by rw [← ht, FrC.bytesF_none, hfb] at e; cases e
      have hts : t.size ≤ 3000 := by rw [← ht]; exact Nat.le_trans (FrC.bytesF_le n u) (by omega)
      rw [ht] at HV ⊢
      have HTS := Lib.hid hts
      clear ht hfb hts
      have hnd : ¬ t.data = #[] := fun e => hne (ByteArray.ext e)
      have heq2 : t.toList.isEmpty = false := by rw [ByteArray.toList_eq]; cases h9 : t.data.toList with | nil => exact absurd (Array.toList_inj.1 (h9.trans rfl)) hnd | cons _ _ => rfl
      have heq3 : decide (t = (⟨#[]⟩ : ByteArray)) = false := decide_eq_false hne
      have XD_q0 := XD.out.at_ 0 rfl
      have XD_q1 := XD.out.at_ 1 rfl
      go_wp2_with fail
      refine (copy_s (p := p) HR.out (by have := HKL.out; omega) (by have := HDP.out.1; omega)).mono ?_
      rintro e v3 h
      clear XD_q0 XD_q1
      obtain ⟨g, c2, rfl, hg1, hg2, hO, hb⟩ := copyD_elim h
      have HO := Lib.hid hO
      have HG := Lib.hid (And.intro hg1 hg2)
      have HLX := Lib.hid XO.out.lt
      clear h hg1 hg2 hO heq2 heq3 hne hnd
      have XD := Lib.hid (XD.out.call hb)
      have XF := Lib.hid (XF.out.call hb)
      have XO := Lib.hid (XO.out.call hb)
      have HR := Lib.hid (rdG R_Region_ok HR.out hb)
      have HB0 := Lib.hid (HB0.out.trans (hb.mono HB0.out.size))
      clear hb
      obtain ⟨v4, hv4⟩ : ∃ V, V = v3.alloc (.cells #[.slice (some ⟨g, 0, none⟩) L.length c2, .int .i64 p] 47) := ⟨_, rfl⟩
      have hb : Below v3.heap.size v3 v4 := by rw [hv4]; exact (Below.refl _ _).alloc (Nat.le_refl _) _
      have hq9 : Blk v4 v3.heap.size 47 #[.slice (some ⟨g, 0, none⟩) L.length c2, .int .i64 p] := by rw [hv4]; exact Blk.new _ _ _
      have XD := Lib.hid (XD.out.call hb)
      have XF := Lib.hid (XF.out.call hb)
      have XO := Lib.hid (XO.out.call hb)
      have HR := Lib.hid (rdG R_Region_ok HR.out hb)
      have HB0 := Lib.hid (HB0.out.trans (hb.mono HB0.out.size))
      have XC := Lib.hid hq9
      have hbz4 := Lib.hid hb.size
      have hbk4 := Lib.hid (fun q (h : q < v3.heap.size) => hb.block q h)
      clear hb hq9
      go_upto_region 8 with fail
      rw [← hv4]
      clear hv4
      have HO := Lib.hid (HO.out.keep (hbk4.out g HG.out.2))
      have XD_q0 := XD.out.at_ 0 rfl
      have XD_q1 := XD.out.at_ 1 rfl
      obtain ⟨⟨put, p', c'⟩, hcv⟩ : ∃ z, cutV p t = z := ⟨_, rfl⟩
      have HCS := Lib.hid (fun w => cut_s p t w HDP.out.2.1.2 HTS.out)
      have hps : put.size ≤ maxLen := Nat.le_trans (show put.size ≤ t.size by have h := cutV_size p t; rw [hcv] at h; exact h) (Nat.le_trans HTS.out (by unfold maxLen; omega))
      rw [hcv] at HCS HV
      have HPS := Lib.hid hps
      have HC12 := Lib.hid (show c' = 0 ∨ c' = 12 from by have h := cutV_code p t; rw [hcv] at h; exact h)
      clear hcv hps
      go_wp2_with fail
      refine (HCS.out _).mono ?_
      rintro e w6 ⟨rfl, rfl⟩
      go_upto_region 9 with fail
      clear XD_q0 XD_q1
      have HS3 := Lib.hid (HO.out.cells HX.out).2.2
      cases odd with
      | false =>
        have ef := (HO.out.cells HX.out).2.1 (k * 3)
        obtain ⟨e0, e1, e2⟩ := (HO.out.cells HX.out).1
        have hi0 : (0 : Int) ≤ (k : Int) := Int.natCast_nonneg _
        have hi1 : (k : Int) < (L.length : Int) := by have := HKL.out; omega
        have XC_q0 := XC.out.at_ 0 rfl
        have XC_q1 := XC.out.at_ 1 rfl
        have XC_s0 := XC.out.soft 0
        have XC_s1 := XC.out.soft 1
        obtain ⟨w7, hw7⟩ : ∃ u, u = v4.setCell ⟨g, k * 3, none⟩ (.string put) := ⟨_, rfl⟩
        have HO7 := Lib.hid (show OwnG w7 g (L.set k (slotY false (x0, x1, x2) put)) c2 from by rw [hw7]; exact HO.out.put (j := 0) HX.out (by omega) rfl (slotY_small HS3.out HPS.out))
        have hof : Off (fun q => q = g) v4 w7 := by rw [hw7]; exact (Off.refl (fun q => q = g) _).setCell (p := ⟨g, k * 3, none⟩) rfl _
        go_upto_region 12 with fail
        rw [← hw7]
        clear hw7 e0 e1 e2 ef
        clear XC_q0 XC_q1 XC_s0 XC_s1
        have XO := Lib.hid (XO.out.off hof XO.out.lt (by have := HG.out; have := HLX.out; omega))
        have XC := Lib.hid (XC.out.off hof XC.out.lt (by have := HG.out; omega))
        have HB6 := Lib.hid (HB0.out.trans (hof.below HB0.out.size (fun q hq => by have := HG.out; have := HLX.out; omega)))
        have HZ6 := Lib.hid (Nat.lt_of_lt_of_le HG.out.2 (Nat.le_trans hbz4.out hof.size))
        clear hof
        have XC_q0 := XC.out.at_ 0 rfl
        have XC_q1 := XC.out.at_ 1 rfl
        have XC_s0 := XC.out.soft 0
        have XC_s1 := XC.out.soft 1
        obtain ⟨w8, hw8⟩ : ∃ u, u = w7.setCell ⟨v3.heap.size, 1, none⟩ (.int .i64 p') := ⟨_, rfl⟩
        have hof8 : Off (fun q => q = v3.heap.size) w7 w8 := by rw [hw8]; exact (Off.refl (fun q => q = v3.heap.size) _).setCell (p := ⟨v3.heap.size, 1, none⟩) rfl _
        have HO8 := Lib.hid (HO7.out.keep (hof8.block g HZ6.out (by have := HG.out; omega)))
        have XC8 := Lib.hid (show Blk w8 v3.heap.size 47 #[.slice (some ⟨g, 0, none⟩) L.length c2, .int .i64 p'] from by rw [hw8]; exact (XC.out.set 1 _).as rfl)
        go_upto_region 13 with fail
        rw [← hw8]
        clear hw8
        clear XC_q0 XC_q1 XC_s0 XC_s1
        have XO := Lib.hid (XO.out.off hof8 XO.out.lt (by have := HG.out; have := HLX.out; omega))
        have HB8 := Lib.hid (HB6.out.trans (hof8.below HB6.out.size (fun q hq => by have := HG.out; have := HLX.out; omega)))
        have HZ8 := Lib.hid (Nat.lt_of_lt_of_le HZ6.out hof8.size)
        clear hof8
        have XC := XC8
        clear XC8
        have XC_q0 := XC.out.at_ 0 rfl
        have XC_q1 := XC.out.at_ 1 rfl
        have XO_q0 := XO.out.at_ 0 rfl
        have XO_q1 := XO.out.at_ 1 rfl
        have XO_q2 := XO.out.at_ 2 rfl
        have XO_s0 := XO.out.soft 0
        have XO_s1 := XO.out.soft 1
        have XO_s2 := XO.out.soft 2
        have HST := Lib.hid (outD_put (d := ((L.set k (slotY false (x0, x1, x2) put), p'), c')) (p := p') (c := c') (W := W) List.length_set rfl rfl (show W.heap.size ≤ W.heap.size + 1 + 1 by omega) HB8.out (S := fun q => q = g) (fun q h => by have := HG.out; have := HLX.out; have := HZ8.out; omega) HO8.out (putCells_off (W.heap.size + 1 + 1) [.slice (some ⟨g, 0, none⟩) L.length c2, .int .i64 p', .int .i64 c'] w8 0))
        go_wp2
        exact bodyPost_ret (v := .agg #[.slice (some ⟨g, 0, none⟩) L.length c2, .int .i64 p', .int .i64 c']) (by simp [results, Try.results31, go_sem, *]) rfl (by rw [HV.out]; unfold putV; rw [if_pos HC12.out]; exact HST.out)
      | true =>
        have ef := (HO.out.cells HX.out).2.1 (k * 3 + 1)
        obtain ⟨e0, e1, e2⟩ := (HO.out.cells HX.out).1
        have hi0 : (0 : Int) ≤ (k : Int) := Int.natCast_nonneg _
        have hi1 : (k : Int) < (L.length : Int) := by have := HKL.out; omega
        have XC_q0 := XC.out.at_ 0 rfl
        have XC_q1 := XC.out.at_ 1 rfl
        have XC_s0 := XC.out.soft 0
        have XC_s1 := XC.out.soft 1
        obtain ⟨w7, hw7⟩ : ∃ u, u = v4.setCell ⟨g, k * 3 + 1, none⟩ (.string put) := ⟨_, rfl⟩
        have HO7 := Lib.hid (show OwnG w7 g (L.set k (slotY true (x0, x1, x2) put)) c2 from by rw [hw7]; exact HO.out.put (j := 1) HX.out (by omega) rfl (slotY_small HS3.out HPS.out))
        have hof : Off (fun q => q = g) v4 w7 := by rw [hw7]; exact (Off.refl (fun q => q = g) _).setCell (p := ⟨g, k * 3 + 1, none⟩) rfl _
        go_upto_region 12 with fail
        rw [← hw7]
        clear hw7 e0 e1 e2 ef
        clear XC_q0 XC_q1 XC_s0 XC_s1
        have XO := Lib.hid (XO.out.off hof XO.out.lt (by have := HG.out; have := HLX.out; omega))
        have XC := Lib.hid (XC.out.off hof XC.out.lt (by have := HG.out; omega))
        have HB6 := Lib.hid (HB0.out.trans (hof.below HB0.out.size (fun q hq => by have := HG.out; have := HLX.out; omega)))
        have HZ6 := Lib.hid (Nat.lt_of_lt_of_le HG.out.2 (Nat.le_trans hbz4.out hof.size))
        clear hof
        have XC_q0 := XC.out.at_ 0 rfl
        have XC_q1 := XC.out.at_ 1 rfl
        have XC_s0 := XC.out.soft 0
        have XC_s1 := XC.out.soft 1
        obtain ⟨w8, hw8⟩ : ∃ u, u = w7.setCell ⟨v3.heap.size, 1, none⟩ (.int .i64 p') := ⟨_, rfl⟩
        have hof8 : Off (fun q => q = v3.heap.size) w7 w8 := by rw [hw8]; exact (Off.refl (fun q => q = v3.heap.size) _).setCell (p := ⟨v3.heap.size, 1, none⟩) rfl _
        have HO8 := Lib.hid (HO7.out.keep (hof8.block g HZ6.out (by have := HG.out; omega)))
        have XC8 := Lib.hid (show Blk w8 v3.heap.size 47 #[.slice (some ⟨g, 0, none⟩) L.length c2, .int .i64 p'] from by rw [hw8]; exact (XC.out.set 1 _).as rfl)
        go_upto_region 13 with fail
        rw [← hw8]
        clear hw8
        clear XC_q0 XC_q1 XC_s0 XC_s1
        have XO := Lib.hid (XO.out.off hof8 XO.out.lt (by have := HG.out; have := HLX.out; omega))
        have HB8 := Lib.hid (HB6.out.trans (hof8.below HB6.out.size (fun q hq => by have := HG.out; have := HLX.out; omega)))
        have HZ8 := Lib.hid (Nat.lt_of_lt_of_le HZ6.out hof8.size)
        clear hof8
        have XC := XC8
        clear XC8
        have XC_q0 := XC.out.at_ 0 rfl
        have XC_q1 := XC.out.at_ 1 rfl
        have XO_q0 := XO.out.at_ 0 rfl
        have XO_q1 := XO.out.at_ 1 rfl
        have XO_q2 := XO.out.at_ 2 rfl
        have XO_s0 := XO.out.soft 0
        have XO_s1 := XO.out.soft 1
        have XO_s2 := XO.out.soft 2
        have HST := Lib.hid (outD_put (d := ((L.set k (slotY true (x0, x1, x2) put), p'), c')) (p := p') (c := c') (W := W) List.length_set rfl rfl (show W.heap.size ≤ W.heap.size + 1 + 1 by omega) HB8.out (S := fun q => q = g) (fun q h => by have := HG.out; have := HLX.out; have := HZ8.out; omega) HO8.out (putCells_off (W.heap.size + 1 + 1) [.slice (some ⟨g, 0, none⟩) L.length c2, .int .i64 p', .int .i64 c'] w8 0))
        go_wp2
        exact bodyPost_ret (v := .agg #[.slice (some ⟨g, 0, none⟩) L.length c2, .int .i64 p', .int .i64 c']) (by simp [results, Try.results31, go_sem, *]) rfl (by rw [HV.out]; unfold putV; rw [if_pos HC12.out]; exact HST.out)
set_option maxHeartbeats 3200000 in
theorem dslot_do {odd : Bool} {n : Int} {u : ByteArray} {L : List D_Region} {p : Int} {G g ca k bf bo : Nat} {x : D_Region} {w : World} (h : WrP L.length L p G g ca k w) (hx : L[k]? = some x) (hne : G ≠ g) (hf : Blk w bf 26 #[.int .i64 n, .string u]) (ho : Blk w bo 4 #[.bool odd]) (hfg : bf ≠ g) (hu : u.size ≤ maxLen) (hp : -1 ≤ p ∧ p ≤ 1000000) :
    Calls Try.prog 67 (#[.pointer (some ⟨G, 0, none⟩)] ++ #[.pointer (some ⟨bf, 0, none⟩), .pointer (some ⟨bo, 0, none⟩)]) w (ChgO (slotF odd n u x p) L G g ca k w) := by
  have HXS := Lib.hid (h.2.cells hx).2.2
  have H := Lib.hid h
  have HX := Lib.hid hx
  have HF := Lib.hid hf
  have HO := Lib.hid ho
  have HU := Lib.hid hu
  have HN := Lib.hid hne
  have HNF := Lib.hid hfg
  have HPW := Lib.hid hp
  have q0 := hf.at_ 0 rfl
  have q1 := hf.at_ 1 rfl
  clear h hx hf ho hu hne hfg hp
  go_enter Try.func67, Try.ntmps67
  go_wp2_with fail
  refine (FrC.frame_i n u _ HU.out).mono ?_
  rintro e w1 ⟨rfl, hb⟩
  have H1 := Lib.hid (show WrP L.length L p G g ca k w1 from ⟨H.out.1.call hb, H.out.2.keep (hb.block g (H.out.2.lt (Nat.lt_of_le_of_lt (Nat.zero_le k) (List.getElem?_eq_some_iff.1 HX.out).1)))⟩)
  have HF1 := Lib.hid (HF.out.call hb)
  have HO1 := Lib.hid (HO.out.call hb)
  have HOFF1 := Lib.hid ((Off.refl (fun q => q = G ∨ q = g) w).of_below hb)
  clear hb q0 q1
  cases hfb : FrC.frB n u with
  | false =>
    have HFB := Lib.hid hfb
    clear hfb
    go_wp2_with fail
    refine (must_no 2 _).mono ?_
    rintro e w8 ⟨rfl, rfl⟩
    go_wp2
    exact ⟨rfl, by rw [slotF_no HFB.out]; exact .inr (.inr ⟨show ¬ (2 : Int) = 0 by decide, show ¬ (2 : Int) = 12 by decide, rfl⟩), HOFF1.out⟩
  | true =>
    have HFB := Lib.hid hfb
    clear hfb
    go_wp2_with fail
    refine (must_yes 2 _).mono ?_
    rintro e w8 ⟨rfl, rfl⟩
    go_upto_region 1 with fail
    refine wp_region_held_drew (S := (fun V => Below w1.heap.size w1 V)) (by kernel_rfl) ((Below.refl _ _).drew) (fun hHeld => ?_)
    refine tk 0 hHeld ?_
    refine tk 1 hHeld ?_
    refine tk 2 hHeld ?_
    refine tk 3 hHeld ?_ (hy := fun w hSw => by (try dsimp only at hSw); have k0 := (hSw.cell (p := ⟨G, 2, none⟩) H1.out.1.lt).trans (H1.out.1.at_ 2 rfl); clear hSw; go_simp; try with_reducible rfl)
    refine tk 4 hHeld ?_ (hy := fun w hSw => by (try dsimp only at hSw); have k0 := (hSw.cell (p := ⟨bo, 0, none⟩) HO1.out.lt).trans (HO1.out.at_ 0 rfl); clear hSw; go_simp; try with_reducible rfl)
    refine rd1 5 (fun K hK => ?_)
    go_simp
    go_at_call 69
    refine (slot_any odd g (k * 3) _).mono ?_
    rintro e v8 ⟨rfl, rfl⟩
    refine hK.out _ _ hHeld (fun hHeld => ?_)
    clear hK K
    refine tk 6 hHeld ?_
    refine rd0 ?_
    obtain ⟨w2, hw2⟩ : ∃ u, u = w1.drew := ⟨_, rfl⟩
    rw [← hw2] at hHeld
    rw [← hw2]
    have H2 := Lib.hid (show WrP L.length L p G g ca k w2 from ⟨H1.out.1.call hHeld, H1.out.2.keep (hHeld.block g (H1.out.2.lt (Nat.lt_of_le_of_lt (Nat.zero_le k) (List.getElem?_eq_some_iff.1 HX.out).1)))⟩)
    have HF2 := Lib.hid (HF1.out.call hHeld)
    have HOFF2 := Lib.hid (HOFF1.out.of_below hHeld)
    clear hHeld hw2
    obtain ⟨s0, hs0⟩ : ∃ s0, (encG x)[slotI odd]? = some (.string s0) := by
      cases odd
      · exact ⟨_, rfl⟩
      · exact ⟨_, rfl⟩
    have e0 := enc_at H2.out.2 HX.out (slotI_lt odd) hs0
    have f0 := (H2.out.2.cells HX.out).2.1 (k * 3 + slotI odd)
    obtain ⟨w3, hw3⟩ : ∃ u, u = w2.setCell ⟨g, k * 3 + slotI odd, none⟩ (.string ⟨#[]⟩) := ⟨_, rfl⟩
    have HP3 := Lib.hid (H2.out.put (y := slotY odd x ⟨#[]⟩) (s := ⟨#[]⟩) HX.out HN.out (slotI_lt odd) (slotY_enc odd x _) (slotY_small HXS.out (Nat.zero_le _)))
    rw [← hw3] at HP3
    have HF3 := Lib.hid (HF2.out.off HP3.out.2 HF2.out.lt HNF.out)
    have HOFF3 := Lib.hid (HOFF2.out.trans (HP3.out.2.more (T := fun q => q = G ∨ q = g) (fun q h => .inr h)))
    go_upto_region 3 with fail
    rw [← hw3]
    clear hw3 e0 f0 hs0
    have q0 := HF3.out.at_ 0 rfl
    have q1 := HF3.out.at_ 1 rfl
    go_wp2_with fail
    refine (FrC.bytes_i n u _ HU.out).mono ?_
    rintro e w4 ⟨rfl, hb⟩
    have H4 := Lib.hid (show WrP L.length (L.set k (slotY odd x ⟨#[]⟩)) p G g ca k w4 from ⟨HP3.out.1.1.call hb, HP3.out.1.2.keep (hb.block g (HP3.out.1.2.lt (by rw [List.length_set]; exact Nat.lt_of_le_of_lt (Nat.zero_le k) (List.getElem?_eq_some_iff.1 HX.out).1)))⟩)
    have HOFF4 := Lib.hid (HOFF3.out.of_below hb)
    clear hb q0 q1
    obtain ⟨t, ht⟩ : ∃ t, FrC.bytesF n u = t := ⟨_, rfl⟩
    have hts : t.size ≤ 3000 := by rw [← ht]; exact Nat.le_trans (FrC.bytesF_le n u) (by omega)
    rw [ht]
    have HTE := Lib.hid ht
    clear ht
    have hmx : (cutV p t).1.size ≤ maxLen := Nat.le_trans (cutV_size p t) (Nat.le_trans hts (by unfold maxLen; omega))
    have HWR := Lib.hid (write_i (n := L.length) (x := slotY odd x ⟨#[]⟩) (y := slotY odd x (cutV p t).1) (s := ⟨#[]⟩) (t := t) H4.out (List.getElem?_set_self (List.getElem?_eq_some_iff.1 HX.out).1) HN.out (slotI_lt odd) (slotY_at odd x _) hts (by decide) HPW.out (by rw [nil_app, ← slotY_enc, slotY_two]) (slotY_small HXS.out hmx))
    clear hts hmx
    go_wp2_with fail
    refine HWR.out.mono ?_
    intro e w5 h
    obtain ⟨h, hw, hoff⟩ := writeO_elim h
    rw [List.set_set] at hw
    have HW5 := Lib.hid hw
    have HOFF5 := Lib.hid (HOFF4.out.trans hoff)
    clear hw hoff HWR
    rcases h with ⟨hc, rfl⟩ | ⟨hc, rfl⟩
    · have HC := Lib.hid hc
      clear hc
      go_wp2
      go_end0
      exact ⟨by rw [slotF_yes HFB.out, HTE.out]; exact .inl ⟨HC.out, rfl, HW5.out⟩, HOFF5.out⟩
    · have HC := Lib.hid hc
      clear hc
      go_wp2
      exact ⟨rfl, by rw [slotF_yes HFB.out, HTE.out]; exact .inr (.inl ⟨HC.out, rfl, HW5.out⟩), HOFF5.out⟩
set_option maxHeartbeats 1600000 in
theorem dslot_i {L : List D_Region} {p : Int} {a : Option Addr} {ca : Nat} {W : World} (hL : RdSl R_Region W W.heap.size L a ca) {r : Int} {odd : Bool} {n : Int} {u : ByteArray} (hu : u.size ≤ maxLen) : Calls Try.prog 32 #[.agg #[.slice a L.length ca, .int .i64 p], .int .i64 r, .bool odd, .agg #[.int .i64 n, .string u]] W (OutD (chgV (slotF odd n u) L p r) W) := by
  have hmf : ∀ (fn : Fn) (first cap : Array Value) (w : World), (Instr.makeFunc fn first cap).run Try.prog w = .ok (.func fn first cap) w := fun _ _ _ _ => rfl
  have HU := Lib.hid hu
  clear hu
  have HR := Lib.hid hL
  have hln : L.length ≤ 9223372036854775807 := by have h1 := hL.1; have h2 := hL.2.1; unfold maxLen at h2; omega
  clear hL
  obtain ⟨d, hd⟩ : ∃ d, chgV (slotF odd n u) L p r = d := ⟨_, rfl⟩
  rw [hd]
  have HDD := Lib.hid hd
  clear hd
  obtain ⟨w0, hw0⟩ : ∃ w, w = (((W.alloc (.cells #[.slice a L.length ca, .int .i64 p] 47)).alloc (.cells #[.bool odd] 4)).alloc (.cells #[.int .i64 n, .string u] 26)).alloc (.cells #[.slice none 0 0, .int .i64 0, .int .i64 0] 55) := ⟨_, rfl⟩
  have HB0 := Lib.hid (show Below W.heap.size W w0 from by rw [hw0]; exact ((((Below.refl _ _).alloc (Nat.le_refl _) _).alloc (by simp) _).alloc (by simp <;> omega) _).alloc (by simp <;> omega) _)
  have hq9 : Blk w0 W.heap.size 47 #[.slice a L.length ca, .int .i64 p] := by
    have h9 := Blk.new W 47 #[.slice a L.length ca, .int .i64 p]
    try simp only [World.size_alloc] at h9
    rw [hw0]
    exact (((h9.alloc _).alloc _).alloc _)
  have XD := Lib.hid hq9
  clear hq9
  have hq9 : Blk w0 (W.heap.size + 1) 4 #[.bool odd] := by
    have h9 := Blk.new (W.alloc (.cells #[.slice a L.length ca, .int .i64 p] 47)) 4 #[.bool odd]
    try simp only [World.size_alloc] at h9
    rw [hw0]
    exact ((h9.alloc _).alloc _)
  have XB := Lib.hid hq9
  clear hq9
  have hq9 : Blk w0 (W.heap.size + 1 + 1) 26 #[.int .i64 n, .string u] := by
    have h9 := Blk.new ((W.alloc (.cells #[.slice a L.length ca, .int .i64 p] 47)).alloc (.cells #[.bool odd] 4)) 26 #[.int .i64 n, .string u]
    try simp only [World.size_alloc] at h9
    rw [hw0]
    exact (h9.alloc _)
  have XF := Lib.hid hq9
  clear hq9
  have hq9 : Blk w0 (W.heap.size + 1 + 1 + 1) 55 #[.slice none 0 0, .int .i64 0, .int .i64 0] := by
    have h9 := Blk.new (((W.alloc (.cells #[.slice a L.length ca, .int .i64 p] 47)).alloc (.cells #[.bool odd] 4)).alloc (.cells #[.int .i64 n, .string u] 26)) 55 #[.slice none 0 0, .int .i64 0, .int .i64 0]
    try simp only [World.size_alloc] at h9
    rw [hw0]
    exact h9
  have XO := Lib.hid hq9
  clear hq9
  have HR := Lib.hid (rdG R_Region_ok HR.out HB0.out)
  have hcf : ∀ (args : Array Value) (w : World), (callFunc 67 args).run Try.prog w = .ok (.enter 67 args) w := fun _ _ => rfl
  go_enter Try.func32, Try.ntmps32
  go_upto_region 1 with fail
  rw [← hw0]
  clear hw0
  have XD_q0 := XD.out.at_ 0 rfl
  have XD_q1 := XD.out.at_ 1 rfl
  go_wp2_with fail
  refine (change_i (p := p) (F := slotF odd n u) (f := 67) (caps := #[.pointer (some ⟨W.heap.size + 1 + 1, 0, none⟩), .pointer (some ⟨W.heap.size + 1, 0, none⟩)]) HR.out hcf (fun k x w G g c hc _ hx _ hg hne hB h => dslot_do h hx hne (XF.out.call hB) (XB.out.call hB) (by have := XF.out.lt; omega) HU.out (codeV_of (.inl hc)).1.2.1)).mono ?_
  rintro e v1 h
  clear XD_q0 XD_q1
  rw [HDD.out] at h
  obtain ⟨a2, c2, S2, rfl, hS2, hO, hb⟩ := outD_elim h
  have HO := Lib.hid hO
  have HS2 := Lib.hid hS2
  have HLX := Lib.hid XO.out.lt
  clear h hS2 hO
  have XD := Lib.hid (XD.out.call hb)
  have XB := Lib.hid (XB.out.call hb)
  have XF := Lib.hid (XF.out.call hb)
  have XO := Lib.hid (XO.out.call hb)
  have HR := Lib.hid (rdG R_Region_ok HR.out hb)
  have HB0 := Lib.hid (HB0.out.trans (hb.mono HB0.out.size))
  clear hb
  have XO_q0 := XO.out.at_ 0 rfl
  have XO_q1 := XO.out.at_ 1 rfl
  have XO_q2 := XO.out.at_ 2 rfl
  have XO_s0 := XO.out.soft 0
  have XO_s1 := XO.out.soft 1
  have XO_s2 := XO.out.soft 2
  have HST := Lib.hid (outD_put (d := d) (W := W) rfl rfl rfl (show W.heap.size ≤ W.heap.size + 1 + 1 + 1 by omega) HB0.out (S := S2) (fun k hk => by have := HS2.out k hk; have := HLX.out; omega) HO.out (putCells_off (W.heap.size + 1 + 1 + 1) [.slice a2 d.1.1.length c2, .int .i64 d.1.2, .int .i64 d.2] v1 0))
  go_wp2
  exact bodyPost_ret (v := .agg #[.slice a2 d.1.1.length c2, .int .i64 d.1.2, .int .i64 d.2]) (by simp [results, Try.results32, go_sem, *]) rfl HST.out
end Go.Proofs.Ytdedomfocljhaaa.ChC
