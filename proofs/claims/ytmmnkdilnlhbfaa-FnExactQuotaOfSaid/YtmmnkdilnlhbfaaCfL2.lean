/- Labels sorted, and made compact, by the library: contracts. -/
import Derived.Test.YtmmnkdilnlhbfaaCfL1
import Derived.Test.YtmmnkdilnlhbfaaLabS
import Derived.Test.YtmmnkdilnlhbfaaLabEq
import Derived.Test.YtmmnkdilnlhbfaaTk
import Derived.Lib.SlicesCompact
import Derived.Lib.SliceRun
namespace Go.Proofs.Ytmmnkdilnlhbfaa.RepC
open Go.RowKit RowC ValC SpanC KeptC Go.Sort Go.Lib
set_option linter.unusedVariables false
set_option linter.unusedSimpArgs false

/-- the labels d lie in block g -/
def Rw (W : World) (g : Nat) (d : Array (Int × Int)) : Prop := ∀ j, j < d.size → W.cell? ⟨g, j * 2, none⟩ = some (.int .i64 d[j]!.1) ∧ W.cell? ⟨g, j * 2 + 1, none⟩ = some (.int .i64 d[j]!.2)
def Sf (W : World) (g : Nat) : Prop := ∀ j, W.frozen? ⟨g, j, none⟩ = false
theorem Rw.below {W W' : World} {g : Nat} {d : Array (Int × Int)} (h : Rw W g d) (hg : g < W.heap.size) (hb : RowKit.Below W.heap.size W W') : Rw W' g d := fun j hj => ⟨(hb.cell (p := ⟨g, _, none⟩) hg).trans (h j hj).1, (hb.cell (p := ⟨g, _, none⟩) hg).trans (h j hj).2⟩
theorem Sf.below {W W' : World} {g : Nat} (h : Sf W g) (hg : g < W.heap.size) (hb : RowKit.Below W.heap.size W W') : Sf W' g := fun j => (hb.frozen (p := ⟨g, j, none⟩) hg).trans (h j)
theorem Rw.set {W : World} {g i : Nat} {d : Array (Int × Int)} (h : Rw W g d) (hi : i < d.size) (x0 x1 : Int) : Rw ((W.setCell ⟨g, i * 2, none⟩ (.int .i64 x0)).setCell ⟨g, i * 2 + 1, none⟩ (.int .i64 x1)) g (d.setIfInBounds i (x0, x1)) := fun j hj => by
  have hj' : j < d.size := by simpa using hj
  by_cases e : j = i
  · subst e
    rw [getElem!_set_same d j _ hi]
    refine ⟨?_, ?_⟩
    · rw [World.cell?_setCell_other _ _ _ _ (fun e => by injection e with _ e2; omega)]
      exact World.cell?_setCell_same' _ _ _ (by rw [(h j hi).1]; rfl)
    · exact World.cell?_setCell_same' _ _ _ (by rw [World.cell?_setCell_other _ _ _ _ (fun e => by injection e with _ e2; omega), (h j hi).2]; rfl)
  · rw [getElem!_set_other d i j _ e]
    refine ⟨?_, ?_⟩
    · rw [World.cell?_setCell_other _ _ _ _ (fun e => by injection e with _ e2; omega), World.cell?_setCell_other _ _ _ _ (fun e => by injection e with _ e2; omega)]; exact (h j hj').1
    · rw [World.cell?_setCell_other _ _ _ _ (fun e => by injection e with _ e2; omega), World.cell?_setCell_other _ _ _ _ (fun e => by injection e with _ e2; omega)]; exact (h j hj').2
theorem Sf.set {W : World} {g i : Nat} (h : Sf W g) (u : Value) : Sf (W.setCell ⟨g, i, none⟩ u) g := fun j => by simpa using h j

/-! ### the sort -/
theorem off_sort {g n : Nat} {d' : Array (Int × Int)} {os : Array Obj} {w : World} : Off (fun k => k = g) w (Go.Proofs.sortWorldK SortC.encL 2 w g 0 n d' os) := by
  unfold Go.Proofs.sortWorldK Go.Sort.putRowK
  refine ⟨rfl, rfl, rfl, by simp, fun k hk hkg => ?_⟩
  rw [heap_grow_old _ _ (by simpa using hk)]
  show (Array.modify _ _ _)[k]? = _
  rw [Array.getElem?_modify, if_neg (fun e => hkg e.symm)]
  rfl
theorem rw_holds {W : World} {g : Nat} {d : Array (Int × Int)} (h : HoldsK SortC.encL 2 W g 0 d) : Rw W g d := fun j hj => by
  have h0 := (h.cell (i := j) (c := 0) hj (by omega)).1
  have h1 := (h.cell (i := j) (c := 1) hj (by omega)).1
  simp only [Nat.zero_add, Nat.add_zero] at h0 h1
  exact ⟨h0, h1⟩
theorem holds_rw {W : World} {g : Nat} {d : Array (Int × Int)} (h : Rw W g d) (hf : Sf W g) : HoldsK SortC.encL 2 W g 0 d := fun t ht => by
  have ht' : t < d.size * 2 := by simpa using ht
  rw [get_flatK _ _ _ _ ht', Nat.zero_add]
  refine ⟨?_, hf t⟩
  obtain ⟨h0, h1⟩ := h (t / 2) (by omega)
  rcases Nat.mod_two_eq_zero_or_one t with e | e
  · rw [e, show t = t / 2 * 2 by omega]
    rw [show (t / 2 * 2) / 2 = t / 2 by omega]
    exact h0
  · rw [e, show t = t / 2 * 2 + 1 by omega]
    rw [show (t / 2 * 2 + 1) / 2 = t / 2 by omega]
    exact h1
/-- what the sort leaves: a row of one's own, a permutation, in order -/
def SrtR (L : List (Int × Int)) (w : World) (e : Ending) (w' : World) : Prop := ∃ g c d, e = .returned (.slice (some ⟨g, 0, none⟩) d.size c) ∧ d.size ≤ c ∧ c ≤ maxLen ∧ w.heap.size ≤ g ∧ g < w'.heap.size ∧ Rw w' g d ∧ Sf w' g ∧ d.size = L.length ∧ (∀ a, (∃ j, j < d.size ∧ d[j]! = a) ↔ a ∈ L) ∧ (∀ i j, i < j → j < d.size → ¬ (d[j]!.1 < d[i]!.1 ∨ d[j]!.1 = d[i]!.1 ∧ d[j]!.2 < d[i]!.2)) ∧ RowKit.Below w.heap.size w w'
theorem srtR_elim {L : List (Int × Int)} {w : World} {e : Ending} {w' : World} (h : SrtR L w e w') : ∃ g c d, e = .returned (.slice (some ⟨g, 0, none⟩) d.size c) ∧ d.size ≤ c ∧ c ≤ maxLen ∧ w.heap.size ≤ g ∧ g < w'.heap.size ∧ Rw w' g d ∧ Sf w' g ∧ d.size = L.length ∧ (∀ a, (∃ j, j < d.size ∧ d[j]! = a) ↔ a ∈ L) ∧ (∀ i j, i < j → j < d.size → ¬ (d[j]!.1 < d[i]!.1 ∨ d[j]!.1 = d[i]!.1 ∧ d[j]!.2 < d[i]!.2)) ∧ RowKit.Below w.heap.size w w' := h
theorem arr_mem (d : Array (Int × Int)) (a : Int × Int) : (∃ j, j < d.size ∧ d[j]! = a) ↔ a ∈ d.toList := by
  rw [Array.mem_toList_iff, Array.mem_iff_getElem]
  constructor
  · rintro ⟨j, hj, e⟩; exact ⟨j, hj, by rw [← e, getElem!_pos d j hj]⟩
  · rintro ⟨j, hj, e⟩; exact ⟨j, hj, by rw [← e, getElem!_pos d j hj]⟩
set_option maxRecDepth 100000 in
set_option maxHeartbeats 1600000 in
theorem clone_labs {L : List D_Label} {a : Option Addr} {cap : Nat} {W : World} (hn : L.length ≤ 1048576) (hne : 0 < L.length) (h : RdSl R_Label W W.heap.size L a cap) :
    Calls Try.prog 133 #[.slice a L.length cap] W (NewS R_Label L W) := by
  have qT : ∀ (w : World) (a : Option Addr) (n c n' c' : Nat), (binOp .eql 73 (.slice a n c) (.slice none n' c')).run Try.prog w = .ok (.bool a.isNone) w := fun w a n c n' c' => Lib.run_eql_slice_nil w _ _ a n c n' c' Try.underlying73
  obtain ⟨g, o, rfl, _⟩ := h.2.2 hne
  obtain ⟨iL, hiL, hzL1, hsL, hbL⟩ := infoLb
  obtain ⟨a', c', w5, hr, hos, hb⟩ := app_flat (P := Try.prog) (ty := 73) R_Label_ok flat_Label Try.underlying73 hiL hzL1 hsL hbL rfl (by decide) (by unfold maxLen; omega) (by omega) h
  clear hiL hzL1 hsL hbL
  have HR := Lib.hid hr
  have HO := Lib.hid hos
  have HB := Lib.hid hb
  clear hr hos hb h
  go_enter Try.func133, Try.ntmps133
  go_wp2_with (at_builtin; refine wpList_app rfl (.tmp 5) (.tmp 6) 73 rfl rfl rfl HR.out ?_)
  go_ret
  exact ⟨a', c', rfl, HO.out, HB.out⟩
set_option maxRecDepth 100000 in
set_option maxHeartbeats 1600000 in
theorem sorted_labs {L : List D_Label} {a : Option Addr} {cap : Nat} {W : World} (hn : L.length ≤ 1048576) (hne : 0 < L.length) (h : RdSl R_Label W W.heap.size L a cap) :
    Calls Try.prog 118 #[.slice a L.length cap, .func (.func 107) #[] #[]] W (SrtR L W) := by
  have HLen := Lib.hid (And.intro hn hne)
  go_enter Try.func118, Try.ntmps118
  go_wp2_with fail
  refine (clone_labs hn hne h).mono ?_
  intro e w1 h1
  obtain ⟨a1, c1, rfl, ho, hb⟩ := newS_elim h1
  obtain ⟨hc1, hc2, hrow⟩ := ho
  obtain ⟨g, Sg, rfl, hgS, hfr, hsub, _, hel⟩ := hrow hne
  have HRw := Lib.hid (show Rw w1 g L.toArray from fun j hj => by
    have hj' : j < L.length := by simpa using hj
    obtain ⟨x, hx⟩ := el_some hj'
    obtain ⟨us, hu, hr⟩ := hel j x hx
    obtain ⟨x0, x1⟩ := x
    obtain rfl := rd_Label (R_Label_ok.ow_rd hr (B := w1.heap.size) (fun k hk => (hsub j k hk).1.2))
    have e : L.toArray[j]! = (x0, x1) := by simp [List.getElem!_eq_getElem?_getD, hx]
    rw [e]
    exact ⟨by simpa [show R_Label.size = 2 from rfl] using hu 0 _ rfl, by simpa [show R_Label.size = 2 from rfl] using hu 1 _ rfl⟩)
  have HSf := Lib.hid (show Sf w1 g from hfr)
  have HB := Lib.hid hb
  have hg1 : W.heap.size ≤ g := hgS.1
  have hg2 : g < w1.heap.size := hgS.2
  have HC := Lib.hid (And.intro hc1 hc2)
  clear h h1 hb hc1 hc2 hrow hgS hfr hsub hel
  go_wp2_with fail
  have hs := SortC.sort_labs g 0 c1 L.toArray w1 (holds_rw HRw.out HSf.out) hg2 (by have := HLen.out.1; simp; omega)
  simp only [List.size_toArray] at hs
  refine hs.mono ?_
  rintro e w2 ⟨rfl, d', n, os, hp, hso, rfl⟩
  have hoff := off_sort (g := g) (n := n) (d' := d') (os := os) (w := w1)
  have hds : d'.size = L.length := by simpa using hp.1
  have hH2 : HoldsK SortC.encL 2 (Go.Proofs.sortWorldK SortC.encL 2 w1 g 0 n d' os) g 0 d' := by
    unfold Go.Proofs.sortWorldK
    exact holdsK_grow SortC.encL 2 _ _ g 0 d' (by simpa [Go.Sort.putRowK] using hg2) (holdsK_putRowK SortC.encL 2 _ g 0 L.toArray d' (holdsK_ahead SortC.encL 2 w1 n g 0 L.toArray (holds_rw HRw.out HSf.out)) (by simpa using hds))
  have HR2 := Lib.hid (rw_holds hH2)
  have HS2 := Lib.hid (show Sf (Go.Proofs.sortWorldK SortC.encL 2 w1 g 0 n d' os) g from fun j => by
    have := HSf.out j
    unfold Go.Proofs.sortWorldK
    rw [frozen?_grow _ _ _ (by simpa [Go.Sort.putRowK] using hg2)]
    unfold Go.Sort.putRowK
    rw [frozen?_putRow]
    exact this)
  have HMem := Lib.hid (show ∀ a, (∃ j, j < d'.size ∧ d'[j]! = a) ↔ a ∈ L from fun a => by
    rw [arr_mem]
    have h3 := hp.2.2
    have e1 : d'.extract 0 L.toArray.size = d' := by rw [← hp.1]; simp
    have e2 : L.toArray.extract 0 L.toArray.size = L.toArray := by simp
    rw [List.size_toArray] at e1 e2
    rw [e1, e2] at h3
    simpa using h3.mem_iff (a := a))
  have HSo := Lib.hid (show ∀ i j, i < j → j < d'.size → ¬ (d'[j]!.1 < d'[i]!.1 ∨ d'[j]!.1 = d'[i]!.1 ∧ d'[j]!.2 < d'[i]!.2) from fun i j hij hj hlt => by
    have := hso i j (Nat.zero_le _) hij (by simpa [hds] using hj)
    rw [(SortC.ltL _ _).2 hlt] at this
    cases this)
  have HB2 := Lib.hid (HB.out.trans (hoff.below HB.out.size (fun k hk => by rw [hk]; exact hg1)))
  have hz := hoff.size
  obtain ⟨w2, hw2⟩ : ∃ w, w = Go.Proofs.sortWorldK SortC.encL 2 w1 g 0 n d' os := ⟨_, rfl⟩
  rw [← hw2] at HR2 HS2 HB2 hz ⊢
  clear hs hp hso hH2 hoff hw2
  go_wp2
  go_ret
  exact ⟨g, c1, d', by rw [hds]; rfl, by rw [hds]; exact HC.out.1, HC.out.2, hg1, by omega, HR2.out, HS2.out, hds, HMem.out, HSo.out, HB2.out⟩
end Go.Proofs.Ytmmnkdilnlhbfaa.RepC
