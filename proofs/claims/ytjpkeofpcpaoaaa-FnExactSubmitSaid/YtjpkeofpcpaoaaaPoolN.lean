/- PoolNew of the model: a contract. -/
import Derived.Test.YtjpkeofpcpaoaaaPoolY
namespace Go.Proofs.Ytjpkeofpcpaoaaa.RepC
open Go.RowKit RowC ValC SpanC KeptC
set_option linter.unusedVariables false
set_option linter.unusedSimpArgs false

/-- a pool with a number and a code -/
abbrev OutD : Type := List (List D_Label) × List D_Job × Int × Int × Int
def illD (c : Int) : OutD := ([], [], 0, 0, c)
def PoolO (d : OutD) (w : World) (e : Ending) (w' : World) : Prop :=
  ∃ ca cc ja jc l1 h1 l2 h2 xs Sf ys Sg, e = .returned (.agg #[.slice ca d.1.length cc, .slice ja d.2.1.length jc, .int .i64 d.2.2.1, .int .i64 d.2.2.2.1, .int .i64 d.2.2.2.2]) ∧ App (Sl R_Label) w' l1 h1 120 (.slice ca d.1.length cc) d.1 xs Sf ∧ App R_Job w' l2 h2 45 (.slice ja d.2.1.length jc) d.2.1 ys Sg ∧ w.heap.size ≤ l1 ∧ l1 ≤ h1 ∧ h1 ≤ l2 ∧ l2 ≤ h2 ∧ Below w.heap.size w w'
theorem own_none {α : Type} (E : Rp α) (w : World) : OwSl E w (fun _ => False) ([] : List α) none 0 := ⟨Nat.le_refl _, Nat.zero_le _, fun h => absurd h (Nat.lt_irrefl _)⟩
theorem rd_none {α : Type} (E : Rp α) (w : World) (B : Nat) : RdSl E w B ([] : List α) none 0 := ⟨Nat.le_refl _, Nat.zero_le _, fun h => absurd h (Nat.lt_irrefl _)⟩
theorem illO (c : Int) {w w' : World} (hb : Below w.heap.size w w') : PoolO (illD c) w (.returned (.agg #[.slice none 0 0, .slice none 0 0, .int .i64 0, .int .i64 0, .int .i64 c])) w' :=
  ⟨none, 0, none, 0, w.heap.size, w.heap.size, w.heap.size, w.heap.size, _, _, _, _, rfl, App.none_ _ _ _ hb.size, App.none_ _ _ _ hb.size, Nat.le_refl _, Nat.le_refl _, Nat.le_refl _, Nat.le_refl _, hb⟩

set_option maxRecDepth 100000 in
set_option maxHeartbeats 1600000 in
theorem ill_spec (c : Int) (W : World) : Calls Try.prog 106 #[.int .i64 c] W fun e w' => e = .returned (.agg #[.slice none 0 0, .slice none 0 0, .int .i64 0, .int .i64 0, .int .i64 c]) ∧ Below W.heap.size W w' := by
  go_enter Try.func106, Try.ntmps106
  go_wp2
  refine bodyPost_ret (v := .agg #[.slice none 0 0, .slice none 0 0, .int .i64 0, .int .i64 0, .int .i64 c]) (by simp [results, Try.results106, go_sem, *]) rfl ⟨rfl, ?_⟩
  repeat (first | refine Below.setCell ?_ (by first | omega | (simp; done) | (simp; omega)) _ | refine Below.alloc ?_ (by first | omega | (simp; done) | (simp; omega)) _ | exact Below.refl _ _)

open Classical in
noncomputable def newD (C : List (List D_Label)) : OutD := if 400 < C.length then illD 2 else if ClearR C then (C, [], 0, 0, 0) else illD 1
theorem newD_size {C : List (List D_Label)} (h : 400 < C.length) : newD C = illD 2 := if_pos h
theorem newD_form {C : List (List D_Label)} (h : ¬ 400 < C.length) (hc : ¬ ClearR C) : newD C = illD 1 := by unfold newD; rw [if_neg h, if_neg hc]
theorem newD_ok {C : List (List D_Label)} (h : ¬ 400 < C.length) (hc : ClearR C) : newD C = (C, [], 0, 0, 0) := by unfold newD; rw [if_neg h, if_pos hc]

set_option maxRecDepth 100000 in
set_option maxHeartbeats 3200000 in
theorem poolnew_spec {C : List (List D_Label)} {a : Option Addr} {cap : Nat} {W : World} (hz : (Sl (Sl R_Label)).sz C ≤ 1048576) (h : RdSl (Sl R_Label) W W.heap.size C a cap) :
    Calls Try.prog 43 #[.slice a C.length cap] W (PoolO (newD C) W) := by
  have HZ := Lib.hid hz
  have H := Lib.hid h
  have hcn : C.length ≤ 1048576 := Nat.le_trans (Nat.le_add_right _ _) hz
  clear h hz
  have hbA : Below (W).heap.size (W) (W.alloc (.cells #[.slice none 0 0, .slice none 0 0, .int .i64 0, .int .i64 0, .int .i64 0] 71)) := (Below.refl _ _).alloc (Nat.le_refl _) _
  have H_1 := Lib.hid (rd_mv (Sl_ok R_Label_ok) H.out hbA)
  have HB1 := Lib.hid (show Below W.heap.size W (W.alloc (.cells #[.slice none 0 0, .slice none 0 0, .int .i64 0, .int .i64 0, .int .i64 0] 71)) from hbA)
  clear H
  have R_1 := Blk.new (W) 71 #[.slice none 0 0, .slice none 0 0, .int .i64 0, .int .i64 0, .int .i64 0]
  have Rh_1 := Lib.hid R_1
  clear R_1 hbA
  by_cases h4 : 400 < C.length
  · have hd : decide ((400 : Int) < (C.length : Int)) = true := decide_eq_true (by omega)
    rw [newD_size h4]
    go_enter Try.func43, Try.ntmps43
    go_wp2_with fail
    refine (ill_spec 2 _).mono ?_
    intro e w2 h
    have h0 := h
    obtain ⟨rfl, hb⟩ := h0
    have R_2 := Lib.hid (Rh_1.out.call hb)
    have H_2 := Lib.hid (rd_mv (Sl_ok R_Label_ok) H_1.out hb)
    have HB2 := Lib.hid (HB1.out.trans ((hb).mono HB1.out.size))
    clear Rh_1 H_1 HB1
    clear h hb
    have qR_0 := R_2.out.at_ 0 rfl
    have qR_1 := R_2.out.at_ 1 rfl
    have qR_2 := R_2.out.at_ 2 rfl
    have qR_3 := R_2.out.at_ 3 rfl
    have qR_4 := R_2.out.at_ 4 rfl
    have sR_0 := R_2.out.soft 0
    have sR_1 := R_2.out.soft 1
    have sR_2 := R_2.out.soft 2
    have sR_3 := R_2.out.soft 3
    have sR_4 := R_2.out.soft 4
    go_wp2
    refine bodyPost_ret (v := .agg #[.slice none 0 0, .slice none 0 0, .int .i64 0, .int .i64 0, .int .i64 2]) (by simp [results, Try.results43, go_sem, *]) rfl ?_
    exact illO 2 (((((HB2.out.setCell (p := ⟨W.heap.size, 0, none⟩) (Nat.le_refl _) (.slice none 0 0)).setCell (p := ⟨W.heap.size, 1, none⟩) (Nat.le_refl _) (.slice none 0 0)).setCell (p := ⟨W.heap.size, 2, none⟩) (Nat.le_refl _) (.int .i64 0)).setCell (p := ⟨W.heap.size, 3, none⟩) (Nat.le_refl _) (.int .i64 0)).setCell (p := ⟨W.heap.size, 4, none⟩) (Nat.le_refl _) (.int .i64 2))
  have hd : decide ((400 : Int) < (C.length : Int)) = false := decide_eq_false (by omega)
  go_enter Try.func43, Try.ntmps43
  go_wp2_with fail
  refine (clear_spec (H_1.out)).mono ?_
  intro e w2 h
  obtain ⟨q, rfl, hq, hb⟩ := resB_elim h
  have R_2 := Lib.hid (Rh_1.out.call hb)
  have H_2 := Lib.hid (rd_mv (Sl_ok R_Label_ok) H_1.out hb)
  have HB2 := Lib.hid (HB1.out.trans ((hb).mono HB1.out.size))
  clear Rh_1 H_1 HB1
  clear h hb
  cases q with
  | false =>
    have HN := Lib.hid (newD_form h4 (fun h => by have := hq.2 h; cases this))
    clear hq
    go_wp2_with fail
    refine (ill_spec 1 _).mono ?_
    intro e w3 h
    have h0 := h
    obtain ⟨rfl, hb⟩ := h0
    have R_3 := Lib.hid (R_2.out.call hb)
    have H_3 := Lib.hid (rd_mv (Sl_ok R_Label_ok) H_2.out hb)
    have HB3 := Lib.hid (HB2.out.trans ((hb).mono HB2.out.size))
    clear R_2 H_2 HB2
    clear h hb
    have qR_0 := R_3.out.at_ 0 rfl
    have qR_1 := R_3.out.at_ 1 rfl
    have qR_2 := R_3.out.at_ 2 rfl
    have qR_3 := R_3.out.at_ 3 rfl
    have qR_4 := R_3.out.at_ 4 rfl
    have sR_0 := R_3.out.soft 0
    have sR_1 := R_3.out.soft 1
    have sR_2 := R_3.out.soft 2
    have sR_3 := R_3.out.soft 3
    have sR_4 := R_3.out.soft 4
    go_wp2
    refine bodyPost_ret (v := .agg #[.slice none 0 0, .slice none 0 0, .int .i64 0, .int .i64 0, .int .i64 1]) (by simp [results, Try.results43, go_sem, *]) rfl ?_
    rw [HN.out]
    exact illO 1 (((((HB3.out.setCell (p := ⟨W.heap.size, 0, none⟩) (Nat.le_refl _) (.slice none 0 0)).setCell (p := ⟨W.heap.size, 1, none⟩) (Nat.le_refl _) (.slice none 0 0)).setCell (p := ⟨W.heap.size, 2, none⟩) (Nat.le_refl _) (.int .i64 0)).setCell (p := ⟨W.heap.size, 3, none⟩) (Nat.le_refl _) (.int .i64 0)).setCell (p := ⟨W.heap.size, 4, none⟩) (Nat.le_refl _) (.int .i64 1))
  | true =>
    have HN := Lib.hid (newD_ok h4 (hq.1 rfl))
    clear hq
    have HLO := Lib.hid (R_2.out.lt)
    go_wp2_with fail
    refine (copy_pool (L := []) (ja := none) (jc := 0) HZ.out (by show (0 : Nat) + 0 ≤ 1048576; omega) (H_2.out) (rd_none _ _ _)).mono ?_
    intro e w3 h
    have h0 := h
    obtain ⟨ca, cc, ja, jc, l1, h1, l2, h2, xs, Sf, ys, Sg, rfl, ha1, ha2, hl1, hl2, hl3, hl4, hb⟩ := h0
    have R_3 := Lib.hid (R_2.out.call hb)
    have H_3 := Lib.hid (rd_mv (Sl_ok R_Label_ok) H_2.out hb)
    have HB3 := Lib.hid (HB2.out.trans ((hb).mono HB2.out.size))
    clear R_2 H_2 HB2
    have HO1 := Lib.hid ha1
    have HO2 := Lib.hid ha2
    clear ha1 ha2
    clear h hb
    have hlt := R_3.out.lt
    have hlo : W.heap.size < w2.heap.size := HLO.out
    have qR_0 := R_3.out.at_ 0 rfl
    have qR_1 := R_3.out.at_ 1 rfl
    have qR_2 := R_3.out.at_ 2 rfl
    have qR_3 := R_3.out.at_ 3 rfl
    have qR_4 := R_3.out.at_ 4 rfl
    have sR_0 := R_3.out.soft 0
    have sR_1 := R_3.out.soft 1
    have sR_2 := R_3.out.soft 2
    have sR_3 := R_3.out.soft 3
    have sR_4 := R_3.out.soft 4
    go_wp2
    refine bodyPost_ret (v := .agg #[.slice ca C.length cc, .slice ja 0 jc, .int .i64 0, .int .i64 0, .int .i64 0]) (by simp [results, Try.results43, go_sem, *]) rfl ?_
    have hoff := ((((((Off.refl (fun x => x = W.heap.size) w3).setCell (p := ⟨W.heap.size, 0, none⟩) rfl (.slice ca C.length cc)).setCell (p := ⟨W.heap.size, 1, none⟩) rfl (.slice ja 0 jc)).setCell (p := ⟨W.heap.size, 2, none⟩) rfl (.int .i64 0)).setCell (p := ⟨W.heap.size, 3, none⟩) rfl (.int .i64 0)).setCell (p := ⟨W.heap.size, 4, none⟩) rfl (.int .i64 0))
    have hsf := hoff.size
    rw [HN.out]
    have le1 := HO1.out.le
    have le2 := HO2.out.le
    exact ⟨ca, cc, ja, jc, _, _, _, _, _, _, _, _, rfl, HO1.out.mv (Sl_ok R_Label_ok) hsf (fun p hp hp2 => hoff.block p (by omega) (by omega)), HO2.out.mv R_Job_ok hsf (fun p hp hp2 => hoff.block p (by omega) (by omega)), by omega, hl2, hl3, hl4, (((((HB3.out.setCell (p := ⟨W.heap.size, 0, none⟩) (Nat.le_refl _) (.slice ca C.length cc)).setCell (p := ⟨W.heap.size, 1, none⟩) (Nat.le_refl _) (.slice ja 0 jc)).setCell (p := ⟨W.heap.size, 2, none⟩) (Nat.le_refl _) (.int .i64 0)).setCell (p := ⟨W.heap.size, 3, none⟩) (Nat.le_refl _) (.int .i64 0)).setCell (p := ⟨W.heap.size, 4, none⟩) (Nat.le_refl _) (.int .i64 0))⟩
end Go.Proofs.Ytjpkeofpcpaoaaa.RepC
