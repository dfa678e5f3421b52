/- Rows of regions that are copied and changed in place. -/
import Derived.Test.YtdedomfocljhaaaDsP
import Derived.Test.YtdedomfocljhaaaAppB
import Derived.Test.YtdedomfocljhaaaClone
import Derived.Lib.AppendZeros
namespace Go.Proofs.Ytdedomfocljhaaa.RepC
open Go.RowKit RowC ValC SpanC KeptC
set_option linter.unusedVariables false
set_option linter.unusedSimpArgs false
set_option maxRecDepth 100000

theorem grow_low {w w' : World} {B : Nat} {o : Option Nat} (h : w.grownBy w' o) (hv : ∀ k, o = some k → B ≤ k) (hB : B ≤ w.heap.size) : Below B w w' :=
  ⟨h.os, h.tape, h.output, h.size, fun k hk => h.block k (Nat.lt_of_lt_of_le hk hB) (fun e => by have := hv k e.symm; omega)⟩
theorem infoReg : (Try.prog.info? 77).map (fun i => (i.zero, i.size, i.bytes)) = some (some (.agg #[.string ⟨#[]⟩, .string ⟨#[]⟩, .string ⟨#[]⟩]), 3, 48) := by kernel_rfl
theorem infoReg2 : ∃ i, Try.prog.info? 77 = some i ∧ i.zero = some (.agg #[.string ⟨#[]⟩, .string ⟨#[]⟩, .string ⟨#[]⟩]) ∧ i.size = 3 ∧ i.bytes = 48 := by
  have h := infoReg
  cases hx : Try.prog.info? 77 with
  | none => rw [hx] at h; simp at h
  | some i => rw [hx] at h; simp at h; exact ⟨i, rfl, h.1, h.2.1, h.2.2⟩
/-- a row of uses of the call's own, from block lo on -/
def GRow (w : World) (lo : Nat) (v : Value) (L : List D_Region) : Prop := ∃ xs hi, lo ≤ hi ∧ App R_Region w lo hi 77 v L xs (fun _ _ => False)
section
variable {w w' : World} {lo : Nat} {v : Value} {L : List D_Region}
theorem GRow.none_ (w : World) : GRow w w.heap.size (.slice none 0 0) [] := ⟨[], w.heap.size, Nat.le_refl _, App.none_ _ _ _ (Nat.le_refl _)⟩
theorem GRow.made (w : World) : GRow (w.alloc (.cells #[] 77)) w.heap.size (.slice (some ⟨w.heap.size, 0, none⟩) 0 0) [] := ⟨[], _, Nat.le_succ _, App.made _ _ _⟩
theorem GRow.call (h : GRow w lo v L) (hb : Below w.heap.size w w') : GRow w' lo v L := by
  obtain ⟨xs, hi, h0, h1⟩ := h
  exact ⟨xs, hi, h0, h1.call R_Region_ok hb⟩
theorem GRow.blk (h : GRow w lo v L) {k : Nat} (hk : v.ownBlock = some k) : lo ≤ k ∧ k < w.heap.size := by
  obtain ⟨xs, hi, h0, h1⟩ := h
  exact ⟨(h1.blk k hk).1, Nat.lt_of_lt_of_le (h1.blk k hk).2 h1.le⟩
theorem GRow.isSlice (h : GRow w lo v L) : ∃ a cap, v = .slice a L.length cap := by
  obtain ⟨xs, hi, h0, h1⟩ := h
  exact h1.isSlice
theorem GRow.news (h : GRow w' lo v L) {w : World} (hlo : w.heap.size ≤ lo) (hb : Below w.heap.size w w') : NewS R_Region L w (.returned v) w' := by
  obtain ⟨xs, hi, h0, h1⟩ := h
  obtain ⟨a, c, rfl, ho⟩ := h1.done
  exact ⟨a, c, rfl, ho.more fun k hk => ⟨Nat.le_trans hlo hk.1, Nat.lt_of_lt_of_le hk.2 h1.le⟩, hb⟩
end
def encG (x : D_Region) : List Value := [.string x.1, .string x.2.1, .string x.2.2]
theorem encG_len (M : List D_Region) : (M.flatMap encG).length = M.length * 3 := by
  induction M with
  | nil => rfl
  | cons x xs ih =>
    rw [List.flatMap_cons, List.length_append, ih, List.length_cons]
    show 3 + _ = _
    omega
theorem encG_at : ∀ (xs : List D_Region) (i j : Nat) (x : D_Region) (c : Value), xs[i]? = some x → (encG x)[j]? = some c → (xs.flatMap encG)[i * 3 + j]? = some c
  | [], i, j, x, c, h, _ => by simp at h
  | y :: ys, 0, j, x, c, h, hc => by
    simp at h
    subst h
    rw [List.flatMap_cons, Nat.zero_mul, Nat.zero_add, List.getElem?_append_left (List.getElem?_eq_some_iff.1 hc).1]
    exact hc
  | y :: ys, i + 1, j, x, c, h, hc => by
    have h1 := encG_at ys i j x c (by simpa using h) hc
    have hl : (encG y).length = 3 := rfl
    rw [List.flatMap_cons, List.getElem?_append_right (by omega), hl, show (i + 1) * 3 + j - 3 = i * 3 + j by omega]
    exact h1
theorem encG_cells {w : World} {g : Nat} : ∀ (M : List D_Region) (b : Nat), (∀ i x, M[i]? = some x → CellsAt w g (b + i * 3) (encG x)) → CellsAt w g b (M.flatMap encG)
  | [], b, _ => CellsAt.nil
  | y :: ys, b, hc => by
    have hy : (encG y).length = 3 := rfl
    rw [List.flatMap_cons]
    refine CellsAt.app.2 ⟨by simpa using hc 0 y rfl, ?_⟩
    rw [hy]
    refine encG_cells ys _ fun i x hx => ?_
    have := hc (i + 1) x (by simpa using hx)
    rw [show b + 3 + i * 3 = b + (i + 1) * 3 by omega]
    exact this
theorem encG_one (M : List D_Region) : ∀ u ∈ M.flatMap encG, u.oneCell' = true := fun u hu => by
  obtain ⟨x, _, h⟩ := List.mem_flatMap.1 hu
  simp [encG] at h
  rcases h with rfl | rfl | rfl <;> rfl
theorem rd_enc {W : World} {B : Nat} {x : D_Region} {us : List Value} (h : R_Region.rd W B x us) : us = encG x ∧ x.1.size ≤ maxLen ∧ x.2.1.size ≤ maxLen ∧ x.2.2.size ≤ maxLen := by
  obtain ⟨x0, x1, x2⟩ := x
  exact rd_Region h
theorem append_noneG {P : Program} {w : World} {base : Nat} {t ty e : TypeId} {i : TypeInfo} {size : Nat} (ht : P.underlying t = some (.slice e)) (hi : P.info? e = some i) {v : Value} {n : Nat} {xs : List Value} (hown : w.ownsRow base e size v n xs) (c : Nat) :
    (Builtin.append_ #[t, t] ty #[v, .slice none 0 c]).run P w = .ok v w := by
  rcases hown.2 with ⟨rfl, rfl⟩ | ⟨g, cap, cur, rfl, _, _, hnc, _⟩
  · simp [Builtin.append_, run_underlying ht, sizeOf, typeInfo, hi, Builtin.lenOf, Builtin.firstCells]
  · simp [Builtin.append_, run_underlying ht, sizeOf, typeInfo, hi, Builtin.lenOf, Builtin.firstCells, hnc, storeCells]
theorem GRow.more {w : World} {lo : Nat} {v : Value} {L : List D_Region} (h : GRow w lo v L) {M : List D_Region} {a : Option Addr} {cap : Nat} (hM : RdSl R_Region w w.heap.size M a cap) (hL : L.length + M.length ≤ 2000000) :
    ∃ v' w', (Builtin.append_ #[45, 45] 45 #[v, .slice a M.length cap]).run Try.prog w = .ok v' w' ∧ GRow w' lo v' (L ++ M) ∧ Below lo w w' := by
  obtain ⟨xs, hi, h0, h1⟩ := h
  obtain ⟨i, hi', hz, hsz, hby⟩ := infoReg2
  have hlo : lo ≤ w.heap.size := Nat.le_trans h0 h1.le
  cases a with
  | none =>
    have hm0 : M = [] := by
      cases M with
      | nil => rfl
      | cons y ys => obtain ⟨g, o, ha, _⟩ := hM.2.2 (by simp); cases ha
    subst hm0
    exact ⟨v, w, append_noneG Try.underlying45 hi' h1.own cap, ⟨xs, hi, h0, by simpa using h1⟩, Below.refl _ _⟩
  | some x =>
    have hcells : ∀ j u, (M.flatMap encG)[j]? = some u → w.cell? (x.add j) = some u := fun j u hj => by
      cases M with
      | nil => simp at hj
      | cons y ys =>
        obtain ⟨g, o, ha, hg, hel⟩ := hM.2.2 (by simp)
        cases ha
        have hall := encG_cells (g := g) (w := w) (y :: ys) o fun i x hx => by
          obtain ⟨us, hu, hr⟩ := hel i x hx
          rw [← (rd_enc hr).1]
          exact hu
        have hadd : (⟨g, o, none⟩ : Addr).add j = ⟨g, o + j, none⟩ := by unfold Addr.add; split <;> simp_all
        rw [hadd]
        exact hall j u hj
    obtain ⟨v', w', hrun, hown, hgr, _, hat⟩ := run_append_own_at (P := Try.prog) w lo 45 45 77 i _ 3 48 Try.underlying45 hi' hz hsz hby rfl (by decide) v L.length _ h1.own x M.length cap (M.flatMap encG) (encG_len M) hcells (encG_one M) (by unfold maxLen; omega) (by omega) hlo
    have hbl : ∀ k, v'.ownBlock = some k → lo ≤ k ∧ k < w'.heap.size := fun k hk => by
      rcases hown.2 with ⟨hn, _⟩ | ⟨g, cap', cur, hv, hlog, hgg, _⟩
      · rw [hn] at hk; cases hk
      · rw [hv] at hk
        cases hk
        exact ⟨hlog, (Array.getElem?_eq_some_iff.1 hgg).1⟩
    have hxl : xs.length = L.length * 3 := h1.own.1
    refine ⟨v', w', hrun, ⟨xs ++ M.flatMap encG, w'.heap.size, Nat.le_trans hlo hgr.size, ⟨by rw [List.length_append]; exact hown, fun q y hy => ?_, fun _ _ h => h.elim, fun _ _ _ _ h => h.elim, hbl, Nat.le_refl _⟩⟩, grow_low hgr (fun k hk => (h1.blk k hk).1) hlo⟩
    by_cases hq : q < L.length
    · rw [List.getElem?_append_left hq] at hy
      obtain ⟨vs, h2, h3⟩ := h1.el q y hy
      refine ⟨vs, fun j d hj => ?_, R_Region_ok.ow_keep h3 fun k hk => hk.elim⟩
      have h4 := h2 j d hj
      rw [List.getElem?_append_left (List.getElem?_eq_some_iff.1 h4).1]
      exact h4
    · rw [List.getElem?_append_right (by omega)] at hy
      have hlt : q - L.length < M.length := (List.getElem?_eq_some_iff.1 hy).1
      obtain ⟨g, o, ha, hg, hel⟩ := hM.2.2 (by omega)
      obtain ⟨us, hu, hr⟩ := hel _ _ hy
      have hb := (rd_enc hr).2
      refine ⟨encG y, fun j d hj => ?_, ?_⟩
      · rw [show R_Region.size = 3 from rfl, List.getElem?_append_right (by rw [hxl]; omega), hxl, show q * 3 + j - L.length * 3 = (q - L.length) * 3 + j by omega]
        exact encG_at M _ j y d hy hj
      · obtain ⟨y0, y1, y2⟩ := y
        exact mkow_Region hb.1 hb.2.1 hb.2.2
set_option maxHeartbeats 1600000 in
theorem clone_reg {L : List D_Region} {a : Option Addr} {cap : Nat} {W : World} (hn : L.length ≤ 2000000) (h : RdSl R_Region W W.heap.size L a cap) :
    Calls Try.prog 94 #[.slice a L.length cap] W (fun e w' => ∃ v, e = .returned v ∧ GRow w' W.heap.size v L ∧ Below W.heap.size W w') := by
  have qT : ∀ (w : World) (a : Option Addr) (n c n' c' : Nat), (binOp .eql 45 (.slice a n c) (.slice none n' c')).run Try.prog w = .ok (.bool a.isNone) w := fun w a n c n' c' => Lib.run_eql_slice_nil w _ _ a n c n' c' Try.underlying45
  cases a with
  | none =>
    have h0 : L.length = 0 := by
      by_cases hp : 0 < L.length
      · obtain ⟨g, o, he, _⟩ := h.2.2 hp
        cases he
      · omega
    have hL : L = [] := List.eq_nil_of_length_eq_zero h0
    subst hL
    go_enter Try.func94, Try.ntmps94
    go_wp2
    go_ret
    exact ⟨_, rfl, GRow.none_ W, Below.refl _ _⟩
  | some x =>
    have hbA : Below W.heap.size W (W.alloc (.cells #[] 77)) := (Below.refl _ _).alloc (Nat.le_refl _) _
    obtain ⟨v', w', hr, hrow, hb⟩ := (GRow.made W).more ((h.below R_Region_ok hbA).more R_Region_ok hbA.size) (by simpa using hn)
    have HR := Lib.hid hr
    have HO := Lib.hid (show GRow w' W.heap.size v' L from by simpa using hrow)
    have HB := Lib.hid (hbA.trans hb)
    clear hr hrow hb h hbA
    go_enter Try.func94, Try.ntmps94
    go_wp2_with (at_builtin; refine wpList_app rfl (.tmp 5) (.tmp 6) 45 rfl rfl rfl HR.out ?_)
    go_ret
    exact ⟨_, rfl, HO.out, HB.out⟩

/-- a copy: a row of its own -/
def OwnG (w : World) (g : Nat) (L : List D_Region) (cap : Nat) : Prop := OwSl R_Region w (fun k => k = g) L (some ⟨g, 0, none⟩) cap
theorem ow_enc {W : World} {S : Nat → Prop} {x : D_Region} {us : List Value} (h : R_Region.ow W S x us) : us = encG x ∧ x.1.size ≤ maxLen ∧ x.2.1.size ≤ maxLen ∧ x.2.2.size ≤ maxLen := by
  obtain ⟨x0, x1, x2⟩ := x
  exact ow0_Region h
theorem mkow_enc {W : World} {S : Nat → Prop} {x : D_Region} (h : x.1.size ≤ maxLen ∧ x.2.1.size ≤ maxLen ∧ x.2.2.size ≤ maxLen) : R_Region.ow W S x (encG x) := by
  obtain ⟨x0, x1, x2⟩ := x
  exact mkow_Region h.1 h.2.1 h.2.2
theorem own_one {w : World} {S : Nat → Prop} {L : List D_Region} {a : Option Addr} {cap : Nat} (h : OwSl R_Region w S L a cap) (hp : 0 < L.length) : ∃ g, a = some ⟨g, 0, none⟩ ∧ S g ∧ OwnG w g L cap := by
  obtain ⟨h1, h2, h3⟩ := h
  obtain ⟨g, Sf, rfl, hg, hf, _, _, hel⟩ := h3 hp
  refine ⟨g, rfl, hg, h1, h2, fun _ => ⟨g, fun _ _ => False, rfl, rfl, hf, fun i k h => h.elim, fun i j k _ h => h.elim, fun i x hx => ?_⟩⟩
  obtain ⟨us, hu, ho⟩ := hel i x hx
  obtain ⟨rfl, hb⟩ := ow_enc ho
  exact ⟨_, hu, mkow_enc hb⟩
theorem OwnG.cells {w : World} {g cap i : Nat} {L : List D_Region} {x : D_Region} (h : OwnG w g L cap) (hx : L[i]? = some x) :
    (w.cell? ⟨g, i * 3, none⟩ = some (.string x.1) ∧ w.cell? ⟨g, i * 3 + 1, none⟩ = some (.string x.2.1) ∧ w.cell? ⟨g, i * 3 + 2, none⟩ = some (.string x.2.2)) ∧ (∀ j, w.frozen? ⟨g, j, none⟩ = false) ∧ x.1.size ≤ maxLen ∧ x.2.1.size ≤ maxLen ∧ x.2.2.size ≤ maxLen := by
  obtain ⟨h1, h2, h3⟩ := h
  obtain ⟨g', Sf, e, hg, hf, _, _, hel⟩ := h3 (Nat.lt_of_le_of_lt (Nat.zero_le i) (List.getElem?_eq_some_iff.1 hx).1)
  cases e
  obtain ⟨us, hu, ho⟩ := hel i x hx
  obtain ⟨rfl, hb⟩ := ow_enc ho
  refine ⟨⟨?_, ?_, ?_⟩, hf, hb⟩
  · simpa [size_RegionS, Nat.add_assoc] using hu 0 _ rfl
  · simpa [size_RegionS, Nat.add_assoc] using hu 1 _ rfl
  · simpa [size_RegionS, Nat.add_assoc] using hu 2 _ rfl
theorem OwnG.lt {w : World} {g cap : Nat} {L : List D_Region} (h : OwnG w g L cap) (hp : 0 < L.length) : g < w.heap.size := by
  obtain ⟨x, hx⟩ := el_some hp
  have h1 := (h.cells hx).1.1
  apply Classical.byContradiction
  intro hn
  unfold World.cell? at h1
  rw [Array.getElem?_eq_none (show w.heap.size ≤ g by omega)] at h1
  cases h1
theorem OwnG.keep {w w' : World} {g cap : Nat} {L : List D_Region} (h : OwnG w g L cap) (hb : w'.heap[g]? = w.heap[g]?) : OwnG w' g L cap := OwSl.keep R_Region_ok h fun k hk => by rw [hk]; exact hb
theorem OwnG.rd {w : World} {g cap B : Nat} {L : List D_Region} (h : OwnG w g L cap) (hB : g < B) : RdSl R_Region w B L (some ⟨g, 0, none⟩) cap := OwSl.rd R_Region_ok h fun k hk => by rw [hk]; exact hB
/-- a cell of it set -/
theorem OwnG.put {w : World} {g cap i j : Nat} {L : List D_Region} {x y : D_Region} {s : ByteArray} (h : OwnG w g L cap) (hx : L[i]? = some x) (hj : j < 3) (hy : encG y = (encG x).set j (.string s)) (hz : y.1.size ≤ maxLen ∧ y.2.1.size ≤ maxLen ∧ y.2.2.size ≤ maxLen) :
    OwnG (w.setCell ⟨g, i * 3 + j, none⟩ (.string s)) g (L.set i y) cap := by
  have hcl := (h.cells hx).1
  obtain ⟨h1, h2, h3⟩ := h
  refine ⟨by rw [List.length_set]; exact h1, h2, fun hp => ?_⟩
  rw [List.length_set] at hp
  obtain ⟨g', Sf, e, hg, hf, hs1, hs2, hel⟩ := h3 hp
  cases e
  have hw : w.setCell ⟨g, i * 3 + j, none⟩ (.string s) = putCells w g (i * 3 + j) [.string s] := rfl
  rw [hw]
  have hc := putCells_cells g [.string s] w (i * 3 + j) (fun p hp => by
    match p, hp with
    | 0, _ =>
      match j, hj with
      | 0, _ => exact ⟨_, hcl.1⟩
      | 1, _ => exact ⟨_, hcl.2.1⟩
      | 2, _ => exact ⟨_, hcl.2.2⟩
    | _ + 1, hp => (simp at hp) <;> omega)
  have hil := (List.getElem?_eq_some_iff.1 hx).1
  refine ⟨g, fun _ _ => False, rfl, rfl, fun q => (putCells_frozen g _ _ w _).trans (hf q), fun _ _ h => h.elim, fun _ _ _ _ h => h.elim, fun q z hz' => ?_⟩
  by_cases e : q = i
  · subst e
    rw [List.getElem?_set_self hil] at hz'
    cases hz'
    obtain ⟨us, hu, ho⟩ := hel q x hx
    obtain ⟨rfl, hb⟩ := ow_enc ho
    refine ⟨encG y, fun jj c hcj => ?_, mkow_enc hz⟩
    rw [hy] at hcj
    by_cases ej : jj = j
    · subst ej
      rw [List.getElem?_set_self (by show jj < 3; exact hj)] at hcj
      cases hcj
      have := hc 0 _ rfl
      simpa [size_RegionS] using this
    · rw [List.getElem?_set_ne (fun e => ej e.symm)] at hcj
      rw [size_RegionS]
      have h9 := hu jj c hcj
      rw [size_RegionS] at h9
      refine (putCells_other g _ w _ ?_).trans h9
      simp
      omega
  · rw [List.getElem?_set_ne (fun e' => e e'.symm)] at hz'
    obtain ⟨us, hu, ho⟩ := hel q z hz'
    obtain ⟨rfl, hb⟩ := ow_enc ho
    refine ⟨encG z, fun jj c hcj => ?_, mkow_enc hb⟩
    have hlj : jj < 3 := (List.getElem?_eq_some_iff.1 hcj).1
    have h9 := hu jj c hcj
    rw [size_RegionS] at h9 ⊢
    refine (putCells_other g _ w _ ?_).trans h9
    simp
    omega
theorem GRow.own {w : World} {lo : Nat} {v : Value} {L : List D_Region} (h : GRow w lo v L) (hp : 0 < L.length) : ∃ g cap, v = .slice (some ⟨g, 0, none⟩) L.length cap ∧ lo ≤ g ∧ g < w.heap.size ∧ OwnG w g L cap := by
  obtain ⟨xs, hi, h0, h1⟩ := h
  obtain ⟨a, c, rfl, ho⟩ := h1.done
  obtain ⟨g, rfl, hg, hO⟩ := own_one ho hp
  exact ⟨g, c, rfl, hg.1, Nat.lt_of_lt_of_le hg.2 h1.le, hO⟩
end Go.Proofs.Ytdedomfocljhaaa.RepC
