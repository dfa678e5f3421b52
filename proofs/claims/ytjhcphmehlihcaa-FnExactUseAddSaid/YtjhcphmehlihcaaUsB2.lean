/- Whole lists of uses appended; slices.Clone at uses; copyUses: contracts. -/
import Derived.Test.YtjhcphmehlihcaaUsA2
import Derived.Test.YtjhcphmehlihcaaCloneM
import Derived.Lib.AppendZeros
namespace Go.Proofs.Ytjhcphmehlihcaa.RepC
open Go.RowKit RowC ValC SpanC KeptC NameC SortC Go.ChangeShapes Go.Maps
set_option linter.unusedVariables false
set_option linter.unusedSimpArgs false
set_option maxRecDepth 100000

def encU (x : D_Use) : List Value := [.int .i64 x.1.1, .int .i64 x.1.2, .string x.2.1, .int .i64 x.2.2]
theorem encU_len (M : List D_Use) : (M.flatMap encU).length = M.length * 4 := by
  induction M with
  | nil => rfl
  | cons x xs ih =>
    rw [List.flatMap_cons, List.length_append, ih, List.length_cons]
    show 4 + _ = _
    omega
theorem encU_at : ∀ (xs : List D_Use) (i j : Nat) (x : D_Use) (c : Value), xs[i]? = some x → (encU x)[j]? = some c → (xs.flatMap encU)[i * 4 + j]? = some c
  | [], i, j, x, c, h, _ => by simp at h
  | y :: ys, 0, j, x, c, h, hc => by
    simp at h
    subst h
    rw [List.flatMap_cons, Nat.zero_mul, Nat.zero_add, List.getElem?_append_left (List.getElem?_eq_some_iff.1 hc).1]
    exact hc
  | y :: ys, i + 1, j, x, c, h, hc => by
    have h1 := encU_at ys i j x c (by simpa using h) hc
    have hl : (encU y).length = 4 := rfl
    rw [List.flatMap_cons, List.getElem?_append_right (by omega), hl, show (i + 1) * 4 + j - 4 = i * 4 + j by omega]
    exact h1
theorem encU_cells {w : World} {g : Nat} : ∀ (M : List D_Use) (b : Nat), (∀ i x, M[i]? = some x → CellsAt w g (b + i * 4) (encU x)) → CellsAt w g b (M.flatMap encU)
  | [], b, _ => CellsAt.nil
  | y :: ys, b, hc => by
    have hy : (encU y).length = 4 := rfl
    rw [List.flatMap_cons]
    refine CellsAt.app.2 ⟨by simpa using hc 0 y rfl, ?_⟩
    rw [hy]
    refine encU_cells ys _ fun i x hx => ?_
    have := hc (i + 1) x (by simpa using hx)
    rw [show b + 4 + i * 4 = b + (i + 1) * 4 by omega]
    exact this
theorem encU_one (M : List D_Use) : ∀ u ∈ M.flatMap encU, u.oneCell' = true := fun u hu => by
  obtain ⟨x, _, h⟩ := List.mem_flatMap.1 hu
  simp [encU] at h
  rcases h with rfl | rfl | rfl | rfl <;> rfl
theorem rd_enc {W : World} {B : Nat} {x : D_Use} {us : List Value} (h : R_Use.rd W B x us) : us = encU x ∧ x.2.1.size ≤ maxLen := by
  obtain ⟨⟨x0, x1⟩, x2, x3⟩ := x
  exact rd_Use h
theorem append_noneU {P : Program} {w : World} {base : Nat} {t ty e : TypeId} {i : TypeInfo} {size : Nat} (ht : P.underlying t = some (.slice e)) (hi : P.info? e = some i) {v : Value} {n : Nat} {xs : List Value} (hown : w.ownsRow base e size v n xs) (c : Nat) :
    (Builtin.append_ #[t, t] ty #[v, .slice none 0 c]).run P w = .ok v w := by
  rcases hown.2 with ⟨rfl, rfl⟩ | ⟨g, cap, cur, rfl, _, _, hnc, _⟩
  · simp [Builtin.append_, run_underlying ht, sizeOf, typeInfo, hi, Builtin.lenOf, Builtin.firstCells]
  · simp [Builtin.append_, run_underlying ht, sizeOf, typeInfo, hi, Builtin.lenOf, Builtin.firstCells, hnc, storeCells]
theorem URow.more {w : World} {lo : Nat} {v : Value} {L : List D_Use} (h : URow w lo v L) {M : List D_Use} {a : Option Addr} {cap : Nat} (hM : RdSl R_Use w w.heap.size M a cap) (hL : L.length + M.length ≤ 2000000) :
    ∃ v' w', (Builtin.append_ #[23, 23] 23 #[v, .slice a M.length cap]).run Try.prog w = .ok v' w' ∧ URow w' lo v' (L ++ M) ∧ Below lo w w' := by
  obtain ⟨xs, hi, h0, h1⟩ := h
  obtain ⟨i, hi', hz, hsz, hby⟩ := infoUse2
  have hlo : lo ≤ w.heap.size := Nat.le_trans h0 h1.le
  cases a with
  | none =>
    have hm0 : M = [] := by
      cases M with
      | nil => rfl
      | cons y ys => obtain ⟨g, o, ha, _⟩ := hM.2.2 (by simp); cases ha
    subst hm0
    exact ⟨v, w, append_noneU Try.underlying23 hi' h1.own cap, ⟨xs, hi, h0, by simpa using h1⟩, Below.refl _ _⟩
  | some x =>
    have hcells : ∀ j u, (M.flatMap encU)[j]? = some u → w.cell? (x.add j) = some u := fun j u hj => by
      cases M with
      | nil => simp at hj
      | cons y ys =>
        obtain ⟨g, o, ha, hg, hel⟩ := hM.2.2 (by simp)
        cases ha
        have hall := encU_cells (g := g) (w := w) (y :: ys) o fun i x hx => by
          obtain ⟨us, hu, hr⟩ := hel i x hx
          rw [← (rd_enc hr).1]
          exact hu
        have hadd : (⟨g, o, none⟩ : Addr).add j = ⟨g, o + j, none⟩ := by unfold Addr.add; split <;> simp_all
        rw [hadd]
        exact hall j u hj
    obtain ⟨v', w', hrun, hown, hgr, _, hat⟩ := run_append_own_at (P := Try.prog) w lo 23 23 68 i _ 4 40 Try.underlying23 hi' hz hsz hby rfl (by decide) v L.length _ h1.own x M.length cap (M.flatMap encU) (encU_len M) hcells (encU_one M) (by unfold maxLen; omega) (by omega) hlo
    have hbl : ∀ k, v'.ownBlock = some k → lo ≤ k ∧ k < w'.heap.size := fun k hk => by
      rcases hown.2 with ⟨hn, _⟩ | ⟨g, cap', cur, hv, hlog, hgg, _⟩
      · rw [hn] at hk; cases hk
      · rw [hv] at hk
        cases hk
        exact ⟨hlog, (Array.getElem?_eq_some_iff.1 hgg).1⟩
    have hxl : xs.length = L.length * 4 := h1.own.1
    refine ⟨v', w', hrun, ⟨xs ++ M.flatMap encU, w'.heap.size, Nat.le_trans hlo hgr.size, ⟨by rw [List.length_append]; exact hown, fun q y hy => ?_, fun _ _ h => h.elim, fun _ _ _ _ h => h.elim, hbl, Nat.le_refl _⟩⟩, grow_low hgr (fun k hk => (h1.blk k hk).1) hlo⟩
    by_cases hq : q < L.length
    · rw [List.getElem?_append_left hq] at hy
      obtain ⟨vs, h2, h3⟩ := h1.el q y hy
      refine ⟨vs, fun j d hj => ?_, R_Use_ok.ow_keep h3 fun k hk => hk.elim⟩
      have h4 := h2 j d hj
      rw [List.getElem?_append_left (List.getElem?_eq_some_iff.1 h4).1]
      exact h4
    · rw [List.getElem?_append_right (by omega)] at hy
      have hlt : q - L.length < M.length := (List.getElem?_eq_some_iff.1 hy).1
      obtain ⟨g, o, ha, hg, hel⟩ := hM.2.2 (by omega)
      obtain ⟨us, hu, hr⟩ := hel _ _ hy
      have hb := (rd_enc hr).2
      refine ⟨encU y, fun j d hj => ?_, ?_⟩
      · rw [show R_Use.size = 4 from rfl, List.getElem?_append_right (by rw [hxl]; omega), hxl, show q * 4 + j - L.length * 4 = (q - L.length) * 4 + j by omega]
        exact encU_at M _ j y d hy hj
      · obtain ⟨⟨y0, y1⟩, y2, y3⟩ := y
        exact mkow_Use hb
set_option maxHeartbeats 1600000 in
theorem clone_use {L : List D_Use} {a : Option Addr} {cap : Nat} {W : World} (hn : L.length ≤ 2000000) (h : RdSl R_Use W W.heap.size L a cap) :
    Calls Try.prog 63 #[.slice a L.length cap] W (fun e w' => ∃ v, e = .returned v ∧ URow w' W.heap.size v L ∧ Below W.heap.size W w') := by
  have qT : ∀ (w : World) (a : Option Addr) (n c n' c' : Nat), (binOp .eql 23 (.slice a n c) (.slice none n' c')).run Try.prog w = .ok (.bool a.isNone) w := fun w a n c n' c' => Lib.run_eql_slice_nil w _ _ a n c n' c' Try.underlying23
  cases a with
  | none =>
    have h0 : L.length = 0 := by
      by_cases hp : 0 < L.length
      · obtain ⟨g, o, he, _⟩ := h.2.2 hp
        cases he
      · omega
    have hL : L = [] := List.eq_nil_of_length_eq_zero h0
    subst hL
    go_enter Try.func63, Try.ntmps63
    go_wp2
    go_ret
    exact ⟨_, rfl, URow.none_ W, Below.refl _ _⟩
  | some x =>
    have hbA : Below W.heap.size W (W.alloc (.cells #[] 68)) := (Below.refl _ _).alloc (Nat.le_refl _) _
    obtain ⟨v', w', hr, hrow, hb⟩ := (URow.made W).more ((h.below R_Use_ok hbA).more R_Use_ok hbA.size) (by simpa using hn)
    have HR := Lib.hid hr
    have HO := Lib.hid (show URow w' W.heap.size v' L from by simpa using hrow)
    have HB := Lib.hid (hbA.trans hb)
    clear hr hrow hb h hbA
    go_enter Try.func63, Try.ntmps63
    go_wp2_with (at_builtin; refine wpList_app rfl (.tmp 5) (.tmp 6) 23 rfl rfl rfl HR.out ?_)
    go_ret
    exact ⟨_, rfl, HO.out, HB.out⟩
end Go.Proofs.Ytjhcphmehlihcaa.RepC
