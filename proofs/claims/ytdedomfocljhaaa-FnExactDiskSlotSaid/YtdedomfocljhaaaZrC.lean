/- changeRegion of the program: a contract. -/
import Derived.Test.YtdedomfocljhaaaZrI
namespace Go.Proofs.Ytdedomfocljhaaa.ChC
open Go.RowKit SpanC KeptC RepC ValC RowC
set_option linter.unusedVariables false
set_option linter.unusedSimpArgs false
set_option maxRecDepth 100000

/-- the writer at block G, its disk's row at block g -/
def WrP (n : Nat) (L : List D_Region) (p : Int) (G g ca k : Nat) (w : World) : Prop := Blk w G 92 #[.slice (some ⟨g, 0, none⟩) n ca, .int .i64 p, .pointer (some ⟨g, k * 3, none⟩)] ∧ OwnG w g L ca
/-- what a change comes to -/
def ChgO (y : D_Region × Int × Int) (L : List D_Region) (G g ca k : Nat) (w : World) (e : Ending) (w' : World) : Prop :=
  (y.2.2 = 0 ∧ e = .returned (.tuple #[]) ∧ WrP L.length (L.set k y.1) y.2.1 G g ca k w' ∨ y.2.2 = 12 ∧ e = .panicked (pErr 12) ∧ WrP L.length (L.set k y.1) y.2.1 G g ca k w' ∨ y.2.2 ≠ 0 ∧ y.2.2 ≠ 12 ∧ e = .panicked (pErr y.2.2)) ∧ Off (fun q => q = G ∨ q = g) w w'
theorem chgO_elim {y : D_Region × Int × Int} {L : List D_Region} {G g ca k : Nat} {w : World} {e : Ending} {w' : World} (h : ChgO y L G g ca k w e w') :
  (y.2.2 = 0 ∧ e = .returned (.tuple #[]) ∧ WrP L.length (L.set k y.1) y.2.1 G g ca k w' ∨ y.2.2 = 12 ∧ e = .panicked (pErr 12) ∧ WrP L.length (L.set k y.1) y.2.1 G g ca k w' ∨ y.2.2 ≠ 0 ∧ y.2.2 ≠ 12 ∧ e = .panicked (pErr y.2.2)) ∧ Off (fun q => q = G ∨ q = g) w w' := h
set_option maxHeartbeats 3200000 in
theorem change_i {F : D_Region → Int → D_Region × Int × Int} {f : Nat} {caps : Array Value} {L : List D_Region} {p : Int} {a : Option Addr} {ca : Nat} {W : World} (hL : RdSl R_Region W W.heap.size L a ca) {r : Int} (hf : ∀ (args : Array Value) (w : World), (callFunc f args).run Try.prog w = .ok (.enter f args) w)
    (hw : ∀ (k : Nat) (x : D_Region) (w : World) (G g c : Nat), codeV L p (k : Int) = 0 → r = (k : Int) → L[k]? = some x → W.heap.size ≤ G → W.heap.size ≤ g → G ≠ g → Below W.heap.size W w → WrP L.length L p G g c k w → Calls Try.prog f (#[.pointer (some ⟨G, 0, none⟩)] ++ caps) w (ChgO (F x p) L G g c k w)) :
    Calls Try.prog 66 #[.agg #[.slice a L.length ca, .int .i64 p], .int .i64 r, .func (Fn.func f) #[] caps] W (OutD (chgV F L p r) W) := by
  have hmf : ∀ (fn : Fn) (first cap : Array Value) (w : World), (Instr.makeFunc fn first cap).run Try.prog w = .ok (.func fn first cap) w := fun _ _ _ _ => rfl
  have HW := Lib.hid hw
  have HR := Lib.hid hL
  have hln : L.length ≤ 9223372036854775807 := by have h1 := hL.1; have h2 := hL.2.1; unfold maxLen at h2; omega
  clear hL hw
  obtain ⟨b, hb⟩ : ∃ b, diskB L p = b := ⟨_, rfl⟩
  have HBQ := Lib.hid hb
  obtain ⟨b2, hb2⟩ : ∃ b, isB r 0 ((L.length : Int) - 1) = b := ⟨_, rfl⟩
  have HB2 := Lib.hid hb2
  clear hb hb2
  obtain ⟨w0, hw0⟩ : ∃ w, w = ((W.alloc (.cells #[.slice a L.length ca, .int .i64 p] 47)).alloc (.cells #[.slice none 0 0, .int .i64 0, .int .i64 0] 55)).alloc (.cells #[.slice none 0 0, .int .i64 0, .pointer none] 92) := ⟨_, rfl⟩
  have HB0 := Lib.hid (show Below W.heap.size W w0 from by rw [hw0]; exact (((Below.refl _ _).alloc (Nat.le_refl _) _).alloc (by simp) _).alloc (by simp <;> omega) _)
  have hq9 : Blk w0 W.heap.size 47 #[.slice a L.length ca, .int .i64 p] := by
    have h9 := Blk.new W 47 #[.slice a L.length ca, .int .i64 p]
    try simp only [World.size_alloc] at h9
    rw [hw0]
    exact ((h9.alloc _).alloc _)
  have XD := Lib.hid hq9
  clear hq9
  have hq9 : Blk w0 (W.heap.size + 1) 55 #[.slice none 0 0, .int .i64 0, .int .i64 0] := by
    have h9 := Blk.new (W.alloc (.cells #[.slice a L.length ca, .int .i64 p] 47)) 55 #[.slice none 0 0, .int .i64 0, .int .i64 0]
    try simp only [World.size_alloc] at h9
    rw [hw0]
    exact (h9.alloc _)
  have XO := Lib.hid hq9
  clear hq9
  have hq9 : Blk w0 (W.heap.size + 1 + 1) 92 #[.slice none 0 0, .int .i64 0, .pointer none] := by
    have h9 := Blk.new ((W.alloc (.cells #[.slice a L.length ca, .int .i64 p] 47)).alloc (.cells #[.slice none 0 0, .int .i64 0, .int .i64 0] 55)) 92 #[.slice none 0 0, .int .i64 0, .pointer none]
    try simp only [World.size_alloc] at h9
    rw [hw0]
    exact h9
  have XW := Lib.hid hq9
  clear hq9
  have HR := Lib.hid (rdG R_Region_ok HR.out HB0.out)
  have HLG := Lib.hid XW.out.lt
  go_enter_defers Try.func66, Try.ntmps66
  go_upto_region 3 with fail
  rw [← hw0]
  clear hw0
  have XD_q0 := XD.out.at_ 0 rfl
  have XD_q1 := XD.out.at_ 1 rfl
  go_wp2_with fail
  refine (dr_ib HBQ.out HR.out).mono ?_
  rintro e v1 ⟨rfl, hb⟩
  clear XD_q0 XD_q1
  have XD := Lib.hid (XD.out.call hb)
  have XO := Lib.hid (XO.out.call hb)
  have XW := Lib.hid (XW.out.call hb)
  have HR := Lib.hid (rdG R_Region_ok HR.out hb)
  have HB0 := Lib.hid (HB0.out.trans (hb.mono HB0.out.size))
  clear hb
  cases b with
  | false =>
    have HV : Hid (chgV F L p r = (([], 0), 1)) := Lib.hid (chgV_ill (codeV_form HBQ.out) (by decide))
    go_wp2_with fail
    refine (must_no 1 _).mono ?_
    rintro e w8 ⟨rfl, rfl⟩
    unfold pErr
    go_wp2
    refine leaves_cons (f := 84) (args := #[.pointer (some ⟨W.heap.size + 1 + 1, 0, none⟩), .pointer (some ⟨W.heap.size + 1, 0, none⟩)]) (by simp) (by simp [go_sem]) ?_
    refine (end_panicking (G := W.heap.size + 1 + 1) (v0 := .bool true) (v1 := .bool true) (v2 := .bool true) XO.out (fun h => absurd h (by decide))).mono ?_
    rintro e u' w9 ⟨rfl, rfl, hbk, hoff⟩
    rw [endV_else _ _ (by decide)] at hbk
    have HBK := Lib.hid hbk
    have HOF := Lib.hid hoff
    clear hbk hoff
    have r0 : w9.cell? ⟨W.heap.size + 1, 0, none⟩ = some (.slice none 0 0) := HBK.out.at_ 0 rfl
    have r1 : w9.cell? ⟨W.heap.size + 1, 1, none⟩ = some (.int .i64 0) := HBK.out.at_ 1 rfl
    have r2 : w9.cell? ⟨W.heap.size + 1, 2, none⟩ = some (.int .i64 1) := HBK.out.at_ 2 rfl
    refine ⟨.agg #[.slice none 0 0, .int .i64 0, .int .i64 1], by simp [results, Try.results66, go_sem, r0, r1, r2], ?_⟩
    rw [HV.out]
    exact outD_put (d := (([], 0), 1)) rfl rfl rfl (show W.heap.size ≤ W.heap.size + 1 by omega) HB0.out (S := fun _ => False) (fun q h => h.elim) own_nil HOF.out
  | true =>
    go_wp2_with fail
    refine (must_yes 1 _).mono ?_
    rintro e w8 ⟨rfl, rfl⟩
    have XD_q0 := XD.out.at_ 0 rfl
    have XD_q1 := XD.out.at_ 1 rfl
    go_wp2_with fail
    refine (hasreg_b HB2.out hln).mono ?_
    rintro e v2 ⟨rfl, hb⟩
    clear XD_q0 XD_q1
    have XD := Lib.hid (XD.out.call hb)
    have XO := Lib.hid (XO.out.call hb)
    have XW := Lib.hid (XW.out.call hb)
    have HR := Lib.hid (rdG R_Region_ok HR.out hb)
    have HB0 := Lib.hid (HB0.out.trans (hb.mono HB0.out.size))
    clear hb
    cases b2 with
    | false =>
      have HV : Hid (chgV F L p r = (([], 0), 6)) := Lib.hid (chgV_ill (codeV_none HBQ.out (fun h => by have h2 := HB2.out; rw [show isB r 0 ((L.length : Int) - 1) = true from (isB_iff _ _ _).2 (by omega)] at h2; cases h2)) (by decide))
      go_wp2_with fail
      refine (must_no 6 _).mono ?_
      rintro e w8 ⟨rfl, rfl⟩
      unfold pErr
      go_wp2
      refine leaves_cons (f := 84) (args := #[.pointer (some ⟨W.heap.size + 1 + 1, 0, none⟩), .pointer (some ⟨W.heap.size + 1, 0, none⟩)]) (by simp) (by simp [go_sem]) ?_
      refine (end_panicking (G := W.heap.size + 1 + 1) (v0 := .bool true) (v1 := .bool true) (v2 := .bool true) XO.out (fun h => absurd h (by decide))).mono ?_
      rintro e u' w9 ⟨rfl, rfl, hbk, hoff⟩
      rw [endV_else _ _ (by decide)] at hbk
      have HBK := Lib.hid hbk
      have HOF := Lib.hid hoff
      clear hbk hoff
      have r0 : w9.cell? ⟨W.heap.size + 1, 0, none⟩ = some (.slice none 0 0) := HBK.out.at_ 0 rfl
      have r1 : w9.cell? ⟨W.heap.size + 1, 1, none⟩ = some (.int .i64 0) := HBK.out.at_ 1 rfl
      have r2 : w9.cell? ⟨W.heap.size + 1, 2, none⟩ = some (.int .i64 6) := HBK.out.at_ 2 rfl
      refine ⟨.agg #[.slice none 0 0, .int .i64 0, .int .i64 6], by simp [results, Try.results66, go_sem, r0, r1, r2], ?_⟩
      rw [HV.out]
      exact outD_put (d := (([], 0), 6)) rfl rfl rfl (show W.heap.size ≤ W.heap.size + 1 by omega) HB0.out (S := fun _ => False) (fun q h => h.elim) own_nil HOF.out
    | true =>
      have hrr := (isB_iff _ _ _).1 HB2.out
      obtain ⟨k, rfl⟩ := Int.eq_ofNat_of_zero_le hrr.1
      have hkl : k < L.length := by omega
      obtain ⟨⟨x0, x1, x2⟩, hx⟩ := el_some hkl
      have HX := Lib.hid hx
      have HKL := Lib.hid hkl
      have HDP := Lib.hid (diskB_iff.1 HBQ.out)
      clear hrr hkl hx
      go_wp2_with fail
      refine (must_yes 6 _).mono ?_
      rintro e w8 ⟨rfl, rfl⟩
      have XD_q0 := XD.out.at_ 0 rfl
      have XD_q1 := XD.out.at_ 1 rfl
      go_wp2_with fail
      refine (copied_i (p := p) HR.out (by have := HKL.out; omega) (by have := HDP.out.1; omega) HDP.out.2.2).mono ?_
      rintro e v3 h
      clear XD_q0 XD_q1
      obtain ⟨g, c2, rfl, hg1, hg2, hO, hb⟩ := copyD_elim h
      have HO := Lib.hid hO
      have HG := Lib.hid (And.intro hg1 hg2)
      have HLX := Lib.hid XW.out.lt
      have HBV := Lib.hid HB0.out.size
      clear h hg1 hg2 hO
      have XD := Lib.hid (XD.out.call hb)
      have XO := Lib.hid (XO.out.call hb)
      have XW := Lib.hid (XW.out.call hb)
      have HR := Lib.hid (rdG R_Region_ok HR.out hb)
      have HB0 := Lib.hid (HB0.out.trans (hb.mono HB0.out.size))
      clear hb
      have XW_q0 := XW.out.at_ 0 rfl
      have XW_q1 := XW.out.at_ 1 rfl
      have XW_q2 := XW.out.at_ 2 rfl
      have XW_s0 := XW.out.soft 0
      have XW_s1 := XW.out.soft 1
      have XW_s2 := XW.out.soft 2
      have hi0 : (0 : Int) ≤ (k : Int) := Int.natCast_nonneg _
      have hi1 : (k : Int) < (L.length : Int) := by have := HKL.out; omega
      obtain ⟨w6, hw6⟩ : ∃ u, u = (((v3.setCell ⟨W.heap.size + 1 + 1, 0, none⟩ (.slice (some ⟨g, 0, none⟩) L.length c2)).setCell ⟨W.heap.size + 1 + 1, 1, none⟩ (.int .i64 p)).setCell ⟨W.heap.size + 1 + 1, 2, none⟩ (.pointer (some ⟨g, k * 3, none⟩))) := ⟨_, rfl⟩
      have hof : Off (fun q => q = W.heap.size + 1 + 1) v3 w6 := by rw [hw6]; exact putCells_off (W.heap.size + 1 + 1) [.slice (some ⟨g, 0, none⟩) L.length c2, .int .i64 p, .pointer (some ⟨g, k * 3, none⟩)] v3 0
      have XW6 := Lib.hid (show Blk w6 (W.heap.size + 1 + 1) 92 #[.slice (some ⟨g, 0, none⟩) L.length c2, .int .i64 p, .pointer (some ⟨g, k * 3, none⟩)] from by rw [hw6]; exact (((XW.out.set 0 _).set 1 _).set 2 _).as rfl)
      have XO := Lib.hid (XO.out.off hof XO.out.lt (by omega))
      have XD := Lib.hid (XD.out.off hof XD.out.lt (by omega))
      have HO := Lib.hid (HO.out.keep (hof.block g HG.out.2 (by have := HG.out; have := HLX.out; omega)))
      have HB0 := Lib.hid (HB0.out.trans (hof.below HB0.out.size (fun q hq => by omega)))
      have HG := Lib.hid (And.intro HG.out.1 (Nat.lt_of_lt_of_le HG.out.2 hof.size))
      clear hof
      go_upto_region 7 with fail
      rw [← hw6]
      clear hw6
      clear XW_q0 XW_q1 XW_q2 XW_s0 XW_s1 XW_s2
      have XW := XW6
      clear XW6
      by_cases hp0 : p = 0
      · have hpb : (p != 0) = false := by simpa using hp0
        have XD_q0 := XD.out.at_ 0 rfl
        have XD_q1 := XD.out.at_ 1 rfl
        have HV : Hid (chgV F L p (k : Int) = ((L, p), 12)) := Lib.hid ((chgV_ill (codeV_down HBQ.out ⟨hi0, hi1⟩ hp0) (by decide)).trans (if_pos rfl))
        clear hp0
        go_wp2_with fail
        refine (must_no 12 _).mono ?_
        rintro e w8 ⟨rfl, rfl⟩
        have HGZ := HG
        clear XD_q0 XD_q1
        unfold pErr
        go_wp2
        refine leaves_cons (f := 84) (args := #[.pointer (some ⟨W.heap.size + 1 + 1, 0, none⟩), .pointer (some ⟨W.heap.size + 1, 0, none⟩)]) (by simp) (by simp [go_sem]) ?_
        refine (end_panicking (G := W.heap.size + 1 + 1) XO.out (fun _ => ⟨XW.out, _, _, _, _, rfl, rfl⟩)).mono ?_
        rintro e u' w9 ⟨rfl, rfl, hbk, hoff⟩
        rw [endV_down] at hbk
        have HBK := Lib.hid hbk
        have HOF := Lib.hid hoff
        clear hbk hoff
        have r0 : w9.cell? ⟨W.heap.size + 1, 0, none⟩ = some (.slice (some ⟨g, 0, none⟩) L.length c2) := HBK.out.at_ 0 rfl
        have r1 : w9.cell? ⟨W.heap.size + 1, 1, none⟩ = some (.int .i64 p) := HBK.out.at_ 1 rfl
        have r2 : w9.cell? ⟨W.heap.size + 1, 2, none⟩ = some (.int .i64 12) := HBK.out.at_ 2 rfl
        refine ⟨.agg #[.slice (some ⟨g, 0, none⟩) L.length c2, .int .i64 p, .int .i64 12], by simp [results, Try.results66, go_sem, r0, r1, r2], ?_⟩
        rw [HV.out]
        exact outD_put (d := ((L, p), 12)) rfl rfl rfl (show W.heap.size ≤ W.heap.size + 1 by omega) HB0.out (S := fun q => q = g) (fun q h => by have := HG.out; have := HLX.out; have := HGZ.out; omega) HO.out HOF.out
      have hpb : (p != 0) = true := by simpa using hp0
      have XD_q0 := XD.out.at_ 0 rfl
      have XD_q1 := XD.out.at_ 1 rfl
      have HV : Hid (chgV F L p (k : Int) = putV L p k (F (x0, x1, x2) p)) := Lib.hid (chgV_at (codeV_ok HBQ.out ⟨hi0, hi1⟩ hp0) HX.out)
      have HCK := Lib.hid (codeV_ok HBQ.out ⟨hi0, hi1⟩ hp0)
      clear hp0
      go_wp2_with fail
      refine (must_yes 12 _).mono ?_
      rintro e w8 ⟨rfl, rfl⟩
      clear XD_q0 XD_q1
      have hcall := HW.out k _ w6 (W.heap.size + 1 + 1) g c2 HCK.out rfl HX.out (by omega) (by have := HG.out.1; have := HBV.out; omega) (by have := HG.out; have := HLX.out; omega) HB0.out ⟨XW.out, HO.out⟩
      obtain ⟨⟨y, p', c'⟩, hy⟩ : ∃ z, F (x0, x1, x2) p = z := ⟨_, rfl⟩
      rw [hy] at hcall
      have HV := Lib.hid (HV.out.trans (congrArg (putV L p k) hy))
      have HCL := Lib.hid hcall
      clear hcall hy
      go_wp2_with fail
      refine HCL.out.mono ?_
      intro e w7 h
      obtain ⟨h, hoff⟩ := chgO_elim h
      have XO := Lib.hid (XO.out.off hoff XO.out.lt (by have := HG.out; have := HLX.out; omega))
      have HB7 := Lib.hid (HB0.out.trans (hoff.below HB0.out.size (fun q hq => by have := HG.out; have := HLX.out; have := HBV.out; omega)))
      have HGZ := Lib.hid (And.intro HG.out.1 (Nat.lt_of_lt_of_le HG.out.2 hoff.size))
      clear hoff HCL
      rcases h with ⟨hc, rfl, hwp⟩ | ⟨hc, rfl, hwp⟩ | ⟨hc, hc2, rfl⟩
      · simp only at hc hwp
        subst hc
        have XW := Lib.hid hwp.1
        have HO := Lib.hid hwp.2
        have HV := Lib.hid (HV.out.trans (if_pos (.inl rfl)))
        clear hwp
        have XW_q0 := XW.out.at_ 0 rfl
        have XW_q1 := XW.out.at_ 1 rfl
        have XW_q2 := XW.out.at_ 2 rfl
        have XO_q0 := XO.out.at_ 0 rfl
        have XO_q1 := XO.out.at_ 1 rfl
        have XO_q2 := XO.out.at_ 2 rfl
        have XO_s0 := XO.out.soft 0
        have XO_s1 := XO.out.soft 1
        have XO_s2 := XO.out.soft 2
        have HOF := Lib.hid (putCells_off (W.heap.size + 1) [.slice (some ⟨g, 0, none⟩) L.length c2, .int .i64 p', .int .i64 0] w7 0)
        have HST := Lib.hid (outD_put (d := ((L.set k y, p'), 0)) (W := W) List.length_set rfl rfl (show W.heap.size ≤ W.heap.size + 1 by omega) HB7.out (S := fun q => q = g) (fun q h => by have := HGZ.out; have := HG.out; have := HLX.out; omega) HO.out HOF.out)
        have HBK := Lib.hid ((((XO.out.set 0 (.slice (some ⟨g, 0, none⟩) L.length c2)).set 1 (.int .i64 p')).set 2 (.int .i64 0)).as rfl)
        go_wp2
        refine leaves_cons (f := 84) (args := #[.pointer (some ⟨W.heap.size + 1 + 1, 0, none⟩), .pointer (some ⟨W.heap.size + 1, 0, none⟩)]) (by simp) (by simp [go_sem]) ?_
        refine (end_idle _ _ _).mono ?_
        rintro e u' w9 ⟨rfl, rfl, rfl⟩
        have r0 := HBK.out.at_ 0 rfl
        have r1 := HBK.out.at_ 1 rfl
        have r2 := HBK.out.at_ 2 rfl
        refine ⟨.agg #[.slice (some ⟨g, 0, none⟩) L.length c2, .int .i64 p', .int .i64 0], by simp [results, Try.results66, go_sem, r0, r1, r2], ?_⟩
        rw [HV.out]
        exact HST.out
      · simp only at hc hwp
        subst hc
        have XW := Lib.hid hwp.1
        have HO := Lib.hid hwp.2
        have HV := Lib.hid (HV.out.trans (if_pos (.inr rfl)))
        clear hwp
        unfold pErr
        go_wp2
        refine leaves_cons (f := 84) (args := #[.pointer (some ⟨W.heap.size + 1 + 1, 0, none⟩), .pointer (some ⟨W.heap.size + 1, 0, none⟩)]) (by simp) (by simp [go_sem]) ?_
        refine (end_panicking (G := W.heap.size + 1 + 1) XO.out (fun _ => ⟨XW.out, _, _, _, _, rfl, rfl⟩)).mono ?_
        rintro e u' w9 ⟨rfl, rfl, hbk, hoff⟩
        rw [endV_down] at hbk
        have HBK := Lib.hid hbk
        have HOF := Lib.hid hoff
        clear hbk hoff
        have r0 : w9.cell? ⟨W.heap.size + 1, 0, none⟩ = some (.slice (some ⟨g, 0, none⟩) L.length c2) := HBK.out.at_ 0 rfl
        have r1 : w9.cell? ⟨W.heap.size + 1, 1, none⟩ = some (.int .i64 p') := HBK.out.at_ 1 rfl
        have r2 : w9.cell? ⟨W.heap.size + 1, 2, none⟩ = some (.int .i64 12) := HBK.out.at_ 2 rfl
        refine ⟨.agg #[.slice (some ⟨g, 0, none⟩) L.length c2, .int .i64 p', .int .i64 12], by simp [results, Try.results66, go_sem, r0, r1, r2], ?_⟩
        rw [HV.out]
        exact outD_put (d := ((L.set k y, p'), 12)) List.length_set rfl rfl (show W.heap.size ≤ W.heap.size + 1 by omega) HB7.out (S := fun q => q = g) (fun q h => by have := HG.out; have := HLX.out; have := HGZ.out; omega) HO.out HOF.out
      · simp only at hc hc2
        have HNC := Lib.hid hc2
        have HV := Lib.hid (HV.out.trans (if_neg (fun h => h.elim hc hc2)))
        clear hc hc2
        unfold pErr
        go_wp2
        refine leaves_cons (f := 84) (args := #[.pointer (some ⟨W.heap.size + 1 + 1, 0, none⟩), .pointer (some ⟨W.heap.size + 1, 0, none⟩)]) (by simp) (by simp [go_sem]) ?_
        refine (end_panicking (G := W.heap.size + 1 + 1) (v0 := .bool true) (v1 := .bool true) (v2 := .bool true) XO.out (fun h => absurd h HNC.out)).mono ?_
        rintro e u' w9 ⟨rfl, rfl, hbk, hoff⟩
        rw [endV_else _ _ HNC.out] at hbk
        have HBK := Lib.hid hbk
        have HOF := Lib.hid hoff
        clear hbk hoff
        have r0 : w9.cell? ⟨W.heap.size + 1, 0, none⟩ = some (.slice none 0 0) := HBK.out.at_ 0 rfl
        have r1 : w9.cell? ⟨W.heap.size + 1, 1, none⟩ = some (.int .i64 0) := HBK.out.at_ 1 rfl
        have r2 : w9.cell? ⟨W.heap.size + 1, 2, none⟩ = some (.int .i64 c') := HBK.out.at_ 2 rfl
        refine ⟨.agg #[.slice none 0 0, .int .i64 0, .int .i64 c'], by simp [results, Try.results66, go_sem, r0, r1, r2], ?_⟩
        rw [HV.out]
        exact outD_put (d := (([], 0), c')) rfl rfl rfl (show W.heap.size ≤ W.heap.size + 1 by omega) HB7.out (S := fun _ => False) (fun q h => h.elim) own_nil HOF.out
end Go.Proofs.Ytdedomfocljhaaa.ChC
