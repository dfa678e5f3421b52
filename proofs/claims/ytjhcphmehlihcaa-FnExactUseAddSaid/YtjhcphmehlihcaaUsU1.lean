/- The map of a right list; UseOf of the program: contracts. -/
import Derived.Test.YtjhcphmehlihcaaTk
import Derived.Test.YtjhcphmehlihcaaTk
import Derived.Test.YtjhcphmehlihcaaUsR2
import Derived.Test.YtjhcphmehlihcaaUsMp
namespace Go.Proofs.Ytjhcphmehlihcaa.RepC
open Go.RowKit RowC ValC SpanC KeptC NameC SortC Go.ChangeShapes Go.Maps
set_option linter.unusedVariables false
set_option linter.unusedSimpArgs false

theorem below_grown2 {w w' : World} {b : Nat} (h : Below w.heap.size w w') : w.grownBy w' (some b) := ⟨h.os, h.tape, h.output, h.size, fun i hi _ => h.block i hi⟩
theorem grown_two {a c d : World} {b : Nat} (h : a.grownBy c (some b)) (k : c.grownBy d (some b)) : a.grownBy d (some b) := h.andThen k fun j hj => by cases hj; exact .inr rfl
theorem grown_drew {a : World} {b : Nat} : a.grownBy a.drew (some b) := ⟨rfl, rfl, rfl, Nat.le_refl _, fun _ _ _ => rfl⟩
theorem grown_below2 {w w' : World} {B b : Nat} (h : w.grownBy w' (some b)) (hB : B ≤ b) (hs : B ≤ w.heap.size) : Below B w w' := ⟨h.os, h.tape, h.output, h.size, fun i hi => h.block i (Nat.lt_of_lt_of_le hi hs) (fun e => by cases e; omega)⟩
theorem box_at {w w' : World} {b g : Nat} {t : TypeId} {cs : Array Value} (h : w.grownBy w' (some b)) (hb : Blk w g t cs) (hne : g ≠ b) (i : Nat) {v : Value} (hv : cs[i]? = some v) : w'.cell? ⟨g, i, none⟩ = some v := by
  have hq : Blk w' g t cs := (h.block g hb.lt (fun e => hne (Option.some.inj e))).trans hb
  exact hq.at_ i hv
/-- a map of accounts in block b, made by the call -/
def MapC (F : AC → Option Int) (m : Nat) (w : World) (e : Ending) (w' : World) : Prop := ∃ b n D, e = .returned (.map (some b)) ∧ n ≤ m ∧ MpU w' b n D F ∧ w.heap.size ≤ b ∧ Below w.heap.size w w'
theorem mapC_elim {F : AC → Option Int} {m : Nat} {w w' : World} {e : Ending} (h : MapC F m w e w') : ∃ b n D, e = .returned (.map (some b)) ∧ n ≤ m ∧ MpU w' b n D F ∧ w.heap.size ≤ b ∧ Below w.heap.size w w' := h
set_option maxRecDepth 100000 in
set_option maxHeartbeats 3200000 in
theorem table_impl {L : List D_Use} {a : Option Addr} {cap : Nat} {W : World} (hR : UsesR L) (h : RdSl R_Use W W.heap.size L a cap) :
    Calls Try.prog 43 #[.slice a L.length cap] W (MapC (FU L) L.length W) := by
  have hn := us_len h
  have h48 := hR.1
  have H := Lib.hid h
  have HR := Lib.hid hR
  clear h hR
  have HM0 := Lib.hid (MpU.new W)
  have hmk : ∀ u : World, (Instr.makeMap 62 none).run Try.prog u = .ok (.map (some u.heap.size)) (u.alloc (.map #[] 0)) := fun u => run_makeMap _ u
  go_enter Try.func43, Try.ntmps43
  go_wp2
  go_loopw [9] (fun i wr => ∃ k : Nat, k ≤ L.length ∧ i = .int .i64 k ∧ Hid (∃ D, MpU wr W.heap.size k D (FU (L.take k))) ∧ Below W.heap.size W wr) (fun i _ => L.length - (intOf i).toNat)
  case atStart => exact ⟨0, Nat.zero_le _, rfl, Lib.hid ⟨_, HM0.out⟩, (Below.refl _ _).alloc (Nat.le_refl _) _⟩
  case round =>
    obtain ⟨k, hk, rfl, HM, hB⟩ := hrel
    obtain ⟨wo, rfl⟩ : ∃ x, x = wr := ⟨_, rfl⟩
    have HB := Lib.hid hB
    have hsz := hB.size
    by_cases hlt : k < L.length
    · skip
      obtain ⟨⟨⟨x0, x1⟩, x2, x3⟩, hx⟩ := el_some hlt
      have HX := Lib.hid hx
      obtain ⟨g, o, us, rfl, hg, hu, hr⟩ := (H.out.below R_Use_ok hB).at_ hx
      obtain ⟨rfl, b_x2⟩ := rd_Use hr
      have e0 : wo.cell? ⟨g, o + k * 4, none⟩ = some (.int .i64 x0) := by simpa [size_UseS, Nat.add_assoc] using hu 0 _ rfl
      have e1 : wo.cell? ⟨g, o + k * 4 + 1, none⟩ = some (.int .i64 x1) := by simpa [size_UseS, Nat.add_assoc] using hu 1 _ rfl
      have e2 : wo.cell? ⟨g, o + k * 4 + 2, none⟩ = some (.string x2) := by simpa [size_UseS, Nat.add_assoc] using hu 2 _ rfl
      have e3 : wo.cell? ⟨g, o + k * 4 + 3, none⟩ = some (.int .i64 x3) := by simpa [size_UseS, Nat.add_assoc] using hu 3 _ rfl
      have hi0 : (0 : Int) ≤ (k : Int) := Int.natCast_nonneg _
      have hi1 : (k : Int) < (L.length : Int) := by omega
      have HW := Lib.hid (usesR_wf HR.out hx)
      have HFA := Lib.hid (FU_app (usesR_new HR.out hx))
      have HTK := Lib.hid (show L.take k ++ [((x0, x1), x2, x3)] = L.take (k + 1) from by rw [List.take_add_one, hx]; rfl)
      obtain ⟨D, hM⟩ := HM.out
      have hml := hM.lt
      obtain ⟨w1, hw1⟩ : ∃ w, w = wo.alloc (.cells #[.int .i64 x0, .int .i64 x1, .string x2, .int .i64 x3] 68) := ⟨_, rfl⟩
      have HM1 := Lib.hid (show MpU w1 W.heap.size k D (FU (L.take k)) from by rw [hw1]; exact hM.keep (Below.heap_alloc _ _ _ hml))
      have hbA : Below wo.heap.size wo w1 := by rw [hw1]; exact (Below.refl _ _).alloc (Nat.le_refl _) _
      have HP1 := Lib.hid (show Blk w1 wo.heap.size 68 #[.int .i64 x0, .int .i64 x1, .string x2, .int .i64 x3] from by rw [hw1]; exact Blk.new _ _ _)
      have HNB := Lib.hid (show wo.heap.size ≠ W.heap.size from by omega)
      have HB1 := Lib.hid (HB.out.trans (hbA.mono hsz))
      have hz1 := HB1.out.size
      have q0 := HP1.out.at_ 0 rfl
      have q1 := HP1.out.at_ 1 rfl
      have q2 := HP1.out.at_ 2 rfl
      have q3 := HP1.out.at_ 3 rfl
      clear hu hr hg hB hx hM hml
      go_wp2_with fail
      rw [← hw1]
      clear hw1 hbA e0 e1 e2 e3
      refine wp_region_held_drew (S := (fun V => w1.grownBy V (some W.heap.size))) (by kernel_rfl) (grown_drew) (fun hHeld => ?_)
      refine tk 0 hHeld ?_
      refine tk 1 hHeld ?_ (hy := fun w hSw => by (try dsimp only at hSw); have k0 := box_at hSw HP1.out HNB.out 0 rfl; have k1 := box_at hSw HP1.out HNB.out 1 rfl; have k2 := box_at hSw HP1.out HNB.out 2 rfl; have k3 := box_at hSw HP1.out HNB.out 3 rfl; clear hSw; go_simp; try with_reducible rfl)
      refine tk 3 hHeld ?_
      refine tk 4 hHeld ?_ (hy := fun w hSw => by (try dsimp only at hSw); have k0 := box_at hSw HP1.out HNB.out 3 rfl; clear hSw; go_simp; try with_reducible rfl)
      refine rd1 2 (fun K hK => ?_)
      go_simp
      go_at_call 50
      refine (acc_w (x3 := x3) _).mono ?_
      rintro e w2 ⟨rfl, hb⟩
      have hg2 := below_grown2 (b := W.heap.size) hb
      have HM2 := Lib.hid (HM1.out.keep (hb.block W.heap.size HM1.out.lt))
      obtain ⟨w3, hrun0, hm3, ht3⟩ := HM2.out.put (by omega) HW.out.1 HW.out.2
      have hrun : (Instr.mapUpdate 62 (.map (some W.heap.size)) (.agg #[.int .i64 x0, .int .i64 x1, .string x2]) (.int .i64 x3)).run Try.prog w2 = .ok () w3 := hrun0
      have HM3 := Lib.hid hm3
      have HT3 := Lib.hid (turned_grown ht3)
      clear hm3 ht3 hrun0
      refine hK.out _ _ (grown_two hHeld hg2) (fun hHeld => ?_)
      clear hK K
      refine rd1 5 (fun K hK => ?_)
      go_simp
      refine hK.out _ _ (grown_two hHeld HT3.out) (fun hHeld => ?_)
      clear hK K
      refine rd0 ?_
      have HF := Lib.hid hHeld
      clear hHeld hrun
      have HBL := Lib.hid (HB1.out.trans (grown_below2 HF.out (Nat.le_refl _) hz1))
      have HMF := Lib.hid (show ∃ D, MpU w3 W.heap.size (k + 1) D (FU (L.take (k + 1))) from ⟨_, HM3.out.ext fun y _ => by rw [← HTK.out]; exact (HFA.out y).symm⟩)
      go_wp2
      go_roundw
      case rel => exact ⟨k + 1, by omega, by go_num, HMF, HBL.out⟩
      case measure => simp [intOf]; omega
    · have hdl : decide ((k : Int) < (L.length : Int)) = false := decide_eq_false (by omega)
      obtain rfl : k = L.length := by omega
      have HQ := Lib.hid HM.out
      clear hB
      go_wp2
      go_ret
      obtain ⟨D, hM⟩ := HQ.out
      rw [List.take_length] at hM
      exact ⟨_, _, D, rfl, Nat.le_refl _, hM, Nat.le_refl _, HB.out⟩
/-- Used of an account in a right list, 0 if there is none -/
noncomputable def ofV (L : List D_Use) (a : AC) : Int := if usesB L = true then (FU L a).getD 0 else 0
theorem ofV_no {L : List D_Use} (a : AC) (h : usesB L = false) : ofV L a = 0 := by unfold ofV; rw [if_neg (by rw [h]; decide)]
theorem ofV_yes {L : List D_Use} (a : AC) (h : usesB L = true) : ofV L a = (FU L a).getD 0 := if_pos h
def OfC (L : List D_Use) (a : AC) (w : World) (e : Ending) (w' : World) : Prop := e = .returned (.int .i64 (ofV L a)) ∧ Below w.heap.size w w'
set_option maxRecDepth 100000 in
set_option maxHeartbeats 3200000 in
theorem useof_impl {L : List D_Use} {a : Option Addr} {cap : Nat} {l0 l1 : Int} {s : ByteArray} {W : World} (h : RdSl R_Use W W.heap.size L a cap) (hw : WfA ((l0, l1), s)) :
    Calls Try.prog 18 #[.slice a L.length cap, .agg #[.int .i64 l0, .int .i64 l1], .string s] W (OfC L ((l0, l1), s) W) := by
  have H := Lib.hid h
  have HWA := Lib.hid hw
  clear h hw
  obtain ⟨wa, hwa⟩ : ∃ w, w = W.alloc (.cells #[.int .i64 l0, .int .i64 l1] 25) := ⟨_, rfl⟩
  have HBA := Lib.hid (show Below W.heap.size W wa from by rw [hwa]; exact (Below.refl _ _).alloc (Nat.le_refl _) _)
  have HPA := Lib.hid (show Blk wa W.heap.size 25 #[.int .i64 l0, .int .i64 l1] from by rw [hwa]; exact Blk.new _ _ _)
  have HA := Lib.hid ((H.out.below R_Use_ok HBA.out).more R_Use_ok HBA.out.size)
  go_enter Try.func18, Try.ntmps18
  go_wp2_with fail
  rw [← hwa]
  clear hwa
  refine (uses_impl HA.out).mono ?_
  intro e w1 h
  obtain ⟨rfl, hb⟩ := isB_elim h
  have HB1 := Lib.hid (HBA.out.trans (hb.mono HBA.out.size))
  have HP1 := Lib.hid (HPA.out.call hb)
  have HA1 := Lib.hid ((HA.out.below R_Use_ok hb).more R_Use_ok hb.size)
  clear h hb HPA HA
  cases hq : usesB L with
  | false =>
    have HE := Lib.hid (ofV_no (L := L) ((l0, l1), s) hq)
    clear hq
    go_wp2
    go_ret
    exact ⟨by rw [HE.out]; rfl, HB1.out⟩
  | true =>
    have HE := Lib.hid (ofV_yes (L := L) ((l0, l1), s) hq)
    have HR := Lib.hid (usesB_iff.1 hq)
    clear hq
    go_wp2_with fail
    refine wp_region_held_drew (S := (fun V => Below (w1).heap.size (w1) V)) (by kernel_rfl) ((Below.refl _ _).drew) (fun hHeld => ?_)
    refine tk 0 hHeld ?_
    refine tk 2 hHeld ?_ (hy := fun w hSw => by (try dsimp only at hSw); have k0 := (hSw.cell (p := ⟨W.heap.size, 0, none⟩) HP1.out.lt).trans (HP1.out.at_ 0 rfl); have k1 := (hSw.cell (p := ⟨W.heap.size, 1, none⟩) HP1.out.lt).trans (HP1.out.at_ 1 rfl); clear hSw; go_simp; try with_reducible rfl)
    refine tk 3 hHeld ?_
    refine tk 4 hHeld ?_
    refine rd1 1 (fun K hK => ?_)
    go_simp
    go_at_call 43
    refine (table_impl HR.out ((HA1.out.below R_Use_ok hHeld).more R_Use_ok hHeld.size)).mono ?_
    intro e w2 h
    obtain ⟨b, n, D, rfl, hnn, hM, hbl, hb⟩ := mapC_elim h
    have hlk : (Instr.lookup 62 (.map (some b)) (.agg #[.int .i64 l0, .int .i64 l1, .string s]) false).run Try.prog w2 = .ok (.int .i64 ((FU L ((l0, l1), s)).getD 0)) w2 := hM.look HWA.out
    clear h hM hnn hbl
    refine hK.out _ _ (hHeld.trans (hb.mono hHeld.size)) (fun hHeld => ?_)
    clear hK K hb
    refine rd1 5 (fun K hK => ?_)
    go_simp
    have hb := Below.refl w2.heap.size w2
    refine hK.out _ _ (hHeld.trans (hb.mono hHeld.size)) (fun hHeld => ?_)
    clear hK K hb
    refine tk 6 hHeld ?_
    refine rd0 ?_
    have HF := Lib.hid hHeld
    clear hHeld
    have HB2 := Lib.hid (HB1.out.trans (HF.out.mono HB1.out.size))
    go_wp2
    go_ret
    exact ⟨by rw [HE.out]; rfl, HB2.out⟩
end Go.Proofs.Ytjhcphmehlihcaa.RepC
