/- The labels of a configuration in the program: contract. -/
import Derived.Test.YtmmnkdilnlhbfaaCfL3
namespace Go.Proofs.Ytmmnkdilnlhbfaa.RepC
open Go.RowKit RowC ValC SpanC KeptC Go.Lib CfC
set_option linter.unusedVariables false
set_option linter.unusedSimpArgs false

theorem chain_rP {L : List D_Label} (h : ChainR L) {a : D_Label} (ha : a ∈ L) : LabC.rP a.1 a.2 := by
  obtain ⟨i, hi⟩ := List.getElem?_of_mem ha
  have := (h.2.2 i (el_lt hi) a hi).1
  exact (LabC.rB_iff _ _).1 this
theorem clear_flat {C : List (List D_Label)} (h : ClearR C) : 0 < C.flatten.length ∧ C.flatten.length ≤ 24 ∧ ∀ a ∈ C.flatten, LabC.rP a.1 a.2 := by
  obtain ⟨h1, h6, hc⟩ := h
  have hmem : ∀ x ∈ C, ChainR x := fun x hx => by
    obtain ⟨i, hi⟩ := List.getElem?_of_mem hx
    exact hc i x hi
  refine ⟨?_, ?_, fun a ha => ?_⟩
  · match C, h1, hmem with
    | x :: xs, _, hm => rw [List.flatten_cons, List.length_append]; have := (hm x List.mem_cons_self).1; omega
  · have : ∀ (M : List (List D_Label)), (∀ x ∈ M, ChainR x) → M.flatten.length ≤ 4 * M.length := by
      intro M
      induction M with
      | nil => intro _; simp
      | cons x xs ih =>
        intro hm
        rw [List.flatten_cons, List.length_append, List.length_cons]
        have := (hm x List.mem_cons_self).2.1
        have := ih fun y hy => hm y (List.mem_cons_of_mem _ hy)
        omega
    have := this C hmem
    omega
  · obtain ⟨x, hx, ha⟩ := List.mem_flatten.1 ha
    exact chain_rP (hmem x hx) ha
theorem labs_compact {C : List (List D_Label)} (h : ClearR C) {d : Array Lb} (hm : ∀ a, (∃ j, j < d.size ∧ d[j]! = a) ↔ a ∈ C.flatten) (hs : ∀ i j, i < j → j < d.size → ¬ (d[j]!.1 < d[i]!.1 ∨ d[j]!.1 = d[i]!.1 ∧ d[j]!.2 < d[i]!.2)) : compactUpTo d d.size = labsOf C := by
  obtain ⟨h1, h2, _⟩ := compact_sorted (d := d) (fun i j hij hj => hs i j hij hj) d.size (Nat.le_refl _)
  refine sorted_eq h1 (labs_sorted C 32) fun a => ?_
  rw [h2, hm]
  show _ ↔ a ∈ labsOf C
  rw [mem_labs, List.mem_flatten]
  constructor
  · rintro ⟨x, hx, ha⟩
    exact ⟨(clear_flat h).2.2 a (List.mem_flatten.2 ⟨x, hx, ha⟩), x, hx, ha⟩
  · rintro ⟨_, x, hx, ha⟩
    exact ⟨x, hx, ha⟩
theorem compact_len_le {d : Array Lb} : ∀ m, (compactUpTo d m).length ≤ m
  | 0 => Nat.le_refl _
  | m + 1 => by
    rw [compactUpTo_succ, List.length_append]
    have := compact_len_le (d := d) m
    split <;> simp <;> omega
set_option maxRecDepth 100000 in
set_option maxHeartbeats 1600000 in
theorem labs_impl {C : List (List D_Label)} {ca : Option Addr} {cc : Nat} {W : World} (hR : ClearR C) (hC : RdSl (Sl R_Label) W W.heap.size C ca cc) :
    Calls Try.prog 84 #[.slice ca C.length cc] W (NewS R_Label (labsOf C) W) := by
  obtain ⟨hf0, hf24, _⟩ := clear_flat hR
  have HR := Lib.hid hR
  obtain ⟨M, hM⟩ : ∃ M, labsOf C = M := ⟨_, rfl⟩
  have HM := Lib.hid hM
  rw [hM]
  clear hM
  have hcon := concat_labs (W := W) (by omega) hC
  have hlc := fun (d : Array Lb) h1 h2 => (labs_compact (d := d) HR.out h1 h2).trans HM.out
  obtain ⟨F, hF⟩ : ∃ F, C.flatten = F := ⟨_, rfl⟩
  rw [hF] at hf0 hf24 hcon hlc
  have HLC := Lib.hid hlc
  have HCON := Lib.hid hcon
  clear hF hlc hcon
  go_enter Try.func84, Try.ntmps84
  go_wp2_with fail
  refine HCON.out.mono ?_
  intro e w1 h
  obtain ⟨v, lo, rfl, hlo, hlw, hrow, hb⟩ := newB_elim h
  obtain ⟨a1, c1, rfl, ho⟩ := hrow.sl R_Label_ok flat_Label
  have HRd := Lib.hid (ho.rd R_Label_ok (B := w1.heap.size) fun k hk => (hrow.blk k hk).2)
  have HB1 := Lib.hid hb
  have hz1 := hb.size
  clear h hrow ho hb hC
  go_wp2_with fail
  refine (sorted_labs (by omega) hf0 HRd.out).mono ?_
  intro e w2 h
  obtain ⟨g, c, d, rfl, hdc, hcm, hg1, hg2, hRw, hSf, hds, hmem, hso, hb⟩ := srtR_elim h
  have HRw := Lib.hid hRw
  have HSf := Lib.hid hSf
  have HE := Lib.hid (HLC.out d hmem hso)
  have HB2 := Lib.hid (HB1.out.trans (hb.mono hz1))
  have hz2 := HB2.out.size
  have HCM := Lib.hid hcm
  have hd24 : d.size ≤ 24 := by omega
  clear h hRw hSf hmem hso hb hcm hds
  go_wp2_with fail
  have hcp := compact_labs HRw.out HSf.out (by omega) hdc hg2
  have hlen := compact_len_le (d := d) d.size
  unfold CmpR at hcp
  rw [HE.out] at hcp hlen
  refine hcp.mono ?_
  rintro e w3 ⟨rfl, hcl, hSf3, hoff⟩
  have HB3 := Lib.hid (HB2.out.trans (hoff.below hz2 fun k hk => by rw [hk]; omega))
  have HN := Lib.hid (show OwSl R_Label w3 (Rg W.heap.size w3.heap.size) M (some ⟨g, 0, none⟩) c from
    ⟨by omega, HCM.out, fun _ => ⟨g, fun _ _ => False, rfl, ⟨by omega, Nat.lt_of_lt_of_le hg2 hoff.size⟩, hSf3, fun i k h => h.elim, fun i j k _ h => h.elim, fun i x hx => by
      obtain ⟨x0, x1⟩ := x
      obtain ⟨q0, q1⟩ := hcl i _ hx
      exact ⟨[.int .i64 x0, .int .i64 x1], CellsAt.cons.2 ⟨q0, CellsAt.cons.2 ⟨q1, CellsAt.nil⟩⟩, mkow_Label⟩⟩⟩)
  clear hcl hSf3 hoff hlen hcp
  go_wp2
  go_ret
  exact ⟨_, c, rfl, HN.out, HB3.out⟩
end Go.Proofs.Ytmmnkdilnlhbfaa.RepC
