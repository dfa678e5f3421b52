/- The model's draws of labels for the laws: DrawChain. -/
import Derived.Test.YtdimpopkkjpddaaDoorLDraw5
namespace Go.Proofs.YtdimpopkkjpddaaDoor.DrawC
open Go.RowKit RepC
set_option linter.unusedVariables false
set_option linter.unusedSimpArgs false

theorem drawnR_elim {B g : Nat} {b : Option Addr} {len cap n : Nat} {w : World} {e : Ending} {w' : World} (h : DrawnR B g b len cap n w e w') :
    ∃ (L : List D_Label) (v : Value) (xs : List Value) (hi : Nat) (Sf : Nat → Nat → Prop), e = .returned v ∧ 1 ≤ L.length ∧ L.length ≤ n ∧ App R_Label w' B hi 23 v L xs Sf ∧ Src g b len cap w' ∧ But g w w' := h
/-- a row of at most four labels, memory of its own; or none -/
def DrawnC (w : World) (e : Ending) (w' : World) : Prop := ∃ L : List D_Label, L.length ≤ 4 ∧ NewS R_Label L w e w'
set_option maxRecDepth 100000 in
set_option maxHeartbeats 1600000 in
theorem draw_chain (b : Option Addr) (len cap : Nat) (w : World) (hlen : len ≤ 1048576) (h : CodeIn w b len) :
    Calls Tryd.prog 31 #[.slice b len cap] w (DrawnC w) := by
  have HC := Lib.hid h
  clear h
  go_enter Tryd.func31, Tryd.ntmps31
  go_wp2_with fail
  refine (source_any b len cap _ hlen HC.out).mono ?_
  rintro e w1 ⟨rfl, hs, hb⟩
  have HB1 := Lib.hid hb
  have HS1 := Lib.hid hs
  have hlt1 := hs.lt
  clear hs hb
  go_wp2_with fail
  refine (chain_any _ b len cap _ HS1.out).mono ?_
  intro e w2 h
  obtain ⟨L, v, xs, hi, Sf, rfl, hL1, hL3, hA, hs, hb⟩ := drawnR_elim h
  obtain ⟨la, lc, rfl⟩ := hA.isSlice
  have HA2 := Lib.hid hA
  have HB2 := Lib.hid (HB1.out.trans (hb.below (B := w.heap.size) HB1.out.size (Nat.le_refl _)))
  have HS2 := Lib.hid hs
  have hhi : w1.heap.size ≤ hi := by
    obtain ⟨_, _, e, ho⟩ := hA.done
    cases e
    obtain ⟨gb, _, _, hr, _⟩ := ho.2.2 (by omega)
    have h1 := hr.1
    have h2 := hr.2
    omega
  clear h hA hs hb HB1 HS1
  go_wp2_with fail
  refine (one_any _ b len cap _ _ HS2.out (by omega)).mono ?_
  rintro e w3 ⟨q, rfl, hs, hb⟩
  have HA3 := Lib.hid (HA2.out.mv R_Label_ok hb.size (fun k hk1 hk2 => hb.block k (by have := HA2.out.le; omega) (by omega)))
  have HB3 := Lib.hid (HB2.out.trans (hb.below (B := w.heap.size) HB2.out.size (Nat.le_refl _)))
  have HS3 := Lib.hid hs
  clear hs hb HA2 HB2 HS2
  cases q with
  | true =>
    go_wp2_with fail
    refine (label_any _ b len cap _ HS3.out).mono ?_
    intro e w4 h
    obtain ⟨lx, sx, rfl, hs, hb⟩ := drawnL_elim h
    have HA4 := Lib.hid (HA3.out.mv R_Label_ok hb.size (fun k hk1 hk2 => hb.block k (by have := HA3.out.le; omega) (by omega)))
    have HB4 := Lib.hid (HB3.out.trans (hb.below (B := w.heap.size) HB3.out.size (Nat.le_refl _)))
    have HS4 := Lib.hid hs
    clear h hs hb HA3 HB3 HS3
    obtain ⟨na, nc, w6, xs6, Sf6, hr, hA6, hb6⟩ := app_label HA4.out lx sx hhi (by omega)
    have HR6 := Lib.hid hr
    have HA6 := Lib.hid hA6
    have HB6 := Lib.hid (HB4.out.trans (hb6.mono (Nat.le_of_lt hlt1)))
    have HS6 := Lib.hid (HS4.out.mono (hb6.mono hlt1))
    clear hr hA6 hb6 HA4 HB4 HS4
    go_wp2_with (at_builtin; refine RowC.wpList_app rfl (.tmp 11) (.tmp 14) 60 rfl rfl rfl HR6.out ?_)
    refine (one_any _ b len cap _ _ HS6.out (by omega)).mono ?_
    rintro e w5 ⟨q2, rfl, hs, hb⟩
    have HB5 := Lib.hid (HB6.out.trans (hb.below (B := w.heap.size) HB6.out.size (Nat.le_refl _)))
    have HA5 := Lib.hid (HA6.out.mv R_Label_ok hb.size (fun k hk1 hk2 => hb.block k (by have := HA6.out.le; omega) (by omega)))
    clear hs hb HB6 HA6 HS6
    cases q2 with
    | true =>
      go_wp2
      go_ret
      exact ⟨[], by decide, (App.none_ R_Label w5 23 (Nat.le_refl _)).new_ (w0 := w) (hi := w5.heap.size) (a := none) (c := 0) HB5.out⟩
    | false =>
      go_wp2
      go_ret
      have hN := (app_lower HA5.out (Nat.le_of_lt hlt1)).new_ HB5.out
      rw [List.length_append, List.length_singleton] at hN
      exact ⟨L ++ [(lx, sx)], (by simp; omega), hN⟩
  | false =>
    go_wp2_with fail
    refine (one_any _ b len cap _ _ HS3.out (by omega)).mono ?_
    rintro e w5 ⟨q2, rfl, hs, hb⟩
    have HB5 := Lib.hid (HB3.out.trans (hb.below (B := w.heap.size) HB3.out.size (Nat.le_refl _)))
    have HA5 := Lib.hid (HA3.out.mv R_Label_ok hb.size (fun k hk1 hk2 => hb.block k (by have := HA3.out.le; omega) (by omega)))
    clear hs hb HB3 HA3 HS3
    cases q2 with
    | true =>
      go_wp2
      go_ret
      exact ⟨[], by decide, (App.none_ R_Label w5 23 (Nat.le_refl _)).new_ (w0 := w) (hi := w5.heap.size) (a := none) (c := 0) HB5.out⟩
    | false =>
      go_wp2
      go_ret
      exact ⟨L, (by omega), (app_lower HA5.out (Nat.le_of_lt hlt1)).new_ HB5.out⟩
end Go.Proofs.YtdimpopkkjpddaaDoor.DrawC
