/- Of this claim's texts the part 5: TaL2 NApp IntC CloneM TaC1 TaC2 ARw TaO1 HalfG TaO3 TaO2. -/
import Derived.OwnWalk
import Derived.Test.YtkghodbbgehcoaaProg
import Derived.WalkKit
import Derived.ProofKit
import Derived.Below
import Derived.WalkSpells
import Derived.WalkLawsBesides
import Derived.Lib.Hide
import Derived.OpenShut
import Derived.Laws.IdiomStrings
import Derived.Lib.BufferWrite
import Derived.Laws.MakeOwn
import Derived.Laws.CopyOwn
import Derived.Laws.Concat
import Derived.Test.YtkghodbbgehcoaaPO4
section
namespace Go.Proofs.Ytkghodbbgehcoaa.RepC
open Go.RowKit RowC ValC SpanC KeptC NameC
set_option linter.unusedVariables false
set_option linter.unusedSimpArgs false
def stU (L : List D_Task) (a : D_Label × Int) : Int := if 0 ≤ atT L a then ((L[(atT L a).toNat]?).map tState).getD 0 else 0
theorem stU_none {L : List D_Task} {a : D_Label × Int} (h : atT L a = -1) : stU L a = 0 := if_neg (by omega)
theorem stU_hit {L : List D_Task} {a : D_Label × Int} {k : Nat} {x : D_Task} (hk : atT L a = (k : Int)) (hx : L[k]? = some x) : stU L a = tState x := by
  unfold stU
  rw [if_pos (by omega), hk, Int.toNat_natCast, hx]
  rfl
set_option maxRecDepth 100000 in
set_option maxHeartbeats 1600000 in
theorem under_w {L : List D_Task} {n : Nat} {a : Option Addr} {cap : Nat} {x0 x1 x2 : Int} {x3 : ByteArray} {x4 x5 x6 x7 x8 x9 x10 x11 x12 : Int} {M : List Int} {ba : Option Addr} {bc : Nat} {W : World} (hLn : L.length = n) (hn : L.length ≤ 1048576) (hI : IncT L L.length) (h : RdSl R_Task W W.heap.size L a cap) :
    Calls Try.prog 123 #[.slice a n cap, .agg #[.int .i64 x0, .int .i64 x1, .int .i64 x2, .string x3, .int .i64 x4, .int .i64 x5, .int .i64 x6, .int .i64 x7, .int .i64 x8, .int .i64 x9, .int .i64 x10, .int .i64 x11, .int .i64 x12, .slice ba M.length bc]] W fun e w' => e = .returned (.int .i64 (stU L ((x7, x8), x9))) ∧ Below W.heap.size W w' := by
  subst hLn
  have H := Lib.hid h
  have HI9 := Lib.hid hI
  clear h hI
  obtain ⟨wo, hwo⟩ : ∃ w, w = W.alloc (.cells #[.int .i64 x0, .int .i64 x1, .int .i64 x2, .string x3, .int .i64 x4, .int .i64 x5, .int .i64 x6, .int .i64 x7, .int .i64 x8, .int .i64 x9, .int .i64 x10, .int .i64 x11, .int .i64 x12, .slice ba M.length bc] 43) := ⟨_, rfl⟩
  have HB0 := Lib.hid (show Below W.heap.size W wo from by rw [hwo]; exact (Below.refl _ _).alloc (Nat.le_refl _) _)
  have HP0 := Lib.hid (show Blk wo W.heap.size 43 #[.int .i64 x0, .int .i64 x1, .int .i64 x2, .string x3, .int .i64 x4, .int .i64 x5, .int .i64 x6, .int .i64 x7, .int .i64 x8, .int .i64 x9, .int .i64 x10, .int .i64 x11, .int .i64 x12, .slice ba M.length bc] from by rw [hwo]; exact Blk.new _ _ _)
  have HA0 := Lib.hid ((H.out.below R_Task_ok HB0.out).more R_Task_ok HB0.out.size)
  have q0 := HP0.out.at_ 0 rfl
  have q1 := HP0.out.at_ 1 rfl
  have q2 := HP0.out.at_ 2 rfl
  have q3 := HP0.out.at_ 3 rfl
  have q4 := HP0.out.at_ 4 rfl
  have q5 := HP0.out.at_ 5 rfl
  have q6 := HP0.out.at_ 6 rfl
  have q7 := HP0.out.at_ 7 rfl
  have q8 := HP0.out.at_ 8 rfl
  have q9 := HP0.out.at_ 9 rfl
  have q10 := HP0.out.at_ 10 rfl
  have q11 := HP0.out.at_ 11 rfl
  have q12 := HP0.out.at_ 12 rfl
  have q13 := HP0.out.at_ 13 rfl
  go_enter Try.func123, Try.ntmps123
  go_upto_region 1 with fail
  rw [← hwo]
  clear hwo
  go_wp2_with fail
  refine (taskat_n rfl hn HI9.out HA0.out).mono ?_
  rintro e w1 ⟨rfl, hb⟩
  have HB1 := Lib.hid (HB0.out.trans (hb.mono HB0.out.size))
  have HA1 := Lib.hid ((HA0.out.below R_Task_ok hb).more R_Task_ok hb.size)
  clear q0 q1 q2 q3 q4 q5 q6 q7 q8 q9 q10 q11 q12 q13 hb
  rcases atT_cases L ((x7, x8), x9) with ⟨hc, _⟩ | ⟨k, y, hc, hx, _, _⟩
  · rw [hc]
    have HZ := Lib.hid (stU_none hc)
    have hng : decide ((-1 : Int) < 0) = true := rfl
    clear hc
    go_wp2
    go_ret
    exact ⟨by rw [HZ.out]; rfl, HB1.out⟩
  · rw [hc]
    have hng : decide ((k : Int) < 0) = false := decide_eq_false (by omega)
    have hil := (List.getElem?_eq_some_iff.1 hx).1
    obtain ⟨⟨y0, y1⟩, y2, y3, y4, y5, y6, ⟨y7, y8⟩, y9, y10, y11, y12, N⟩ := y
    have HZ := Lib.hid (show stU L ((x7, x8), x9) = y11 from stU_hit hc hx)
    obtain ⟨g, o, us, rfl, hg, hu, hr⟩ := HA1.out.at_ hx
    obtain ⟨da, dc, rfl, k_N, b_y3⟩ := rd_Task hr
    have e11 : w1.cell? ⟨g, o + k * 14 + 11, none⟩ = some (.int .i64 y11) := by simpa [size_TaskS, Nat.add_assoc] using hu 11 _ rfl
    have hi0 : (0 : Int) ≤ (k : Int) := Int.natCast_nonneg _
    have hi1 : (k : Int) < (L.length : Int) := by omega
    clear hu hr hg hx hc k_N
    go_wp2
    go_ret
    exact ⟨by rw [HZ.out]; rfl, HB1.out⟩
end Go.Proofs.Ytkghodbbgehcoaa.RepC
end
section
namespace Go.Proofs.Ytkghodbbgehcoaa.RepC
open Go.RowKit RowC ValC
set_option linter.unusedVariables false
set_option maxRecDepth 100000
theorem app_nil {P : Program} {w : World} {t ty e : TypeId} {i : TypeInfo} (ht : P.underlying t = some (.slice e)) (hi : P.info? e = some i) (base a : Option Addr) (cap c : Nat) :
    (Builtin.append_ #[t, t] ty #[.slice base 0 cap, .slice a 0 c]).run P w = .ok (.slice base 0 cap) w := by
  have hf : (Builtin.firstCells i.size 0 (.slice a 0 c)).run P w = .ok #[] w := by
    cases a with
    | none => exact run_firstCells_none _ _ _ _ _
    | some a => exact run_firstCells_some _ _ 0 a 0 c [] (by simp) (by simp)
  cases base <;> simp [Builtin.append_, run_underlying ht, sizeOf, typeInfo, hi, Builtin.lenOf, hf, storeCells]
structure App {α : Type} (E : Rp α) (w : World) (lo hi : Nat) (T : TypeId) (v : Value) (L : List α) (xs : List Value) (Sf : Nat → Nat → Prop) : Prop where
  own : w.ownsRow lo T E.size v L.length xs
  el : ∀ i x, L[i]? = some x → ∃ us, (∀ j c, us[j]? = some c → xs[i * E.size + j]? = some c) ∧ E.ow w (Sf i) x us
  sub : ∀ i k, Sf i k → lo ≤ k ∧ k < hi ∧ v.ownBlock ≠ some k
  dis : ∀ i j k, i < j → Sf i k → ¬ Sf j k
  blk : ∀ k, v.ownBlock = some k → lo ≤ k ∧ k < hi
  le : hi ≤ w.heap.size
section
variable {α : Type} {E : Rp α} {w w' : World} {lo hi : Nat} {T : TypeId} {v : Value} {L : List α} {xs : List Value} {Sf : Nat → Nat → Prop}
theorem App.none_ (E : Rp α) (w : World) {lo hi : Nat} (T : TypeId) (h : hi ≤ w.heap.size) : App E w lo hi T (.slice none 0 0) [] [] (fun _ _ => False) :=
  ⟨⟨by simp, .inl ⟨rfl, rfl⟩⟩, fun i x hx => by simp at hx, fun i k h => h.elim, fun i j k _ h => h.elim, fun k hk => (by cases hk), h⟩
theorem App.made (E : Rp α) (w : World) (T : TypeId) : App E (w.alloc (.cells #[] T)) w.heap.size (w.heap.size + 1) T (.slice (some ⟨w.heap.size, 0, none⟩) 0 0) [] [] (fun _ _ => False) :=
  ⟨⟨by simp, .inr ⟨w.heap.size, 0, #[], rfl, Nat.le_refl _, heap_alloc_new w _, Nat.le_refl _, Nat.zero_le _, by simp, by simp⟩⟩, fun i x hx => by simp at hx, fun i k h => h.elim, fun i j k _ h => h.elim, fun k hk => (by cases hk; exact ⟨Nat.le_refl _, Nat.lt_succ_self _⟩), by simp⟩
theorem App.mv (hE : Ok E) (h : App E w lo hi T v L xs Sf) (hs : w.heap.size ≤ w'.heap.size) (hb : ∀ k, lo ≤ k → k < hi → w'.heap[k]? = w.heap[k]?) : App E w' lo hi T v L xs Sf := by
  refine ⟨?_, fun i x hx => ?_, h.sub, h.dis, h.blk, Nat.le_trans h.le hs⟩
  · obtain ⟨h1, h2⟩ := h.own
    refine ⟨h1, ?_⟩
    rcases h2 with h2 | ⟨g, cap, cur, rfl, hlo, hg, h3⟩
    · exact .inl h2
    · have := h.blk g rfl
      exact .inr ⟨g, cap, cur, rfl, hlo, (hb g this.1 this.2).trans hg, h3⟩
  · obtain ⟨us, h1, h2⟩ := h.el i x hx
    exact ⟨us, h1, hE.ow_keep h2 fun k hk => hb k (h.sub i k hk).1 (h.sub i k hk).2.1⟩
theorem App.call (hE : Ok E) (h : App E w lo hi T v L xs Sf) (hb : Below w.heap.size w w') : App E w' lo hi T v L xs Sf := h.mv hE hb.size fun k _ hk => hb.block k (Nat.lt_of_lt_of_le hk h.le)
theorem App.isSlice (h : App E w lo hi T v L xs Sf) : ∃ a cap, v = .slice a L.length cap := by
  obtain ⟨_, h2⟩ := h.own
  rcases h2 with ⟨rfl, h0⟩ | ⟨g, cap, cur, rfl, _⟩
  · exact ⟨none, 0, by rw [h0]⟩
  · exact ⟨_, _, rfl⟩
theorem App.done (h : App E w lo hi T v L xs Sf) : ∃ a cap, v = .slice a L.length cap ∧ OwSl E w (Rg lo hi) L a cap := by
  obtain ⟨hx, h2⟩ := h.own
  rcases h2 with ⟨rfl, h0⟩ | ⟨g, cap, cur, rfl, hlo, hg, hn, hm, hc, ht⟩
  · have : L = [] := List.eq_nil_of_length_eq_zero h0
    subst this
    exact ⟨none, 0, rfl, Nat.le_refl _, Nat.zero_le _, fun h => absurd h (Nat.lt_irrefl _)⟩
  · have hb := h.blk g rfl
    refine ⟨_, cap, rfl, hn, hm, fun _ => ⟨g, Sf, rfl, ⟨hb.1, hb.2⟩, fun j => by simp [World.frozen?, hg], fun i k hk => ⟨⟨(h.sub i k hk).1, (h.sub i k hk).2.1⟩, fun e => (h.sub i k hk).2.2 (by rw [e]; rfl)⟩, h.dis, fun i x hi => ?_⟩⟩
    obtain ⟨us, h1, h3⟩ := h.el i x hi
    refine ⟨us, fun j c hj => ?_, h3⟩
    have h4 := h1 j c hj
    rw [← ht] at h4
    have h5 : cur.toList[i * E.size + j]? = some c := by
      rw [List.getElem?_take] at h4
      split at h4
      · exact h4
      · cases h4
    exact (cell_of_row w g _ cur _ _ hg).trans (by simpa using h5)
theorem App.app2 {P : Program} (hE : Ok E) (h : App E w lo hi T v L xs Sf) {t ty : TypeId} {i : TypeInfo} {z : Value} {bytes : Nat} (ht : P.underlying t = some (.slice T)) (hi' : P.info? T = some i) (hz : i.zero = some z) (hsize : i.size = E.size) (hby : i.bytes = bytes) (hzs : z.cells.size = E.size) (hpos : 0 < E.size)
    {x : α} {us : List Value} {Sx : Nat → Prop} {blk c : Nat} (hrow : ∀ j u, us[j]? = some u → w.cell? ⟨blk, j, none⟩ = some u) (hx : E.ow w Sx x us) (hS : ∀ k, Sx k → hi ≤ k ∧ k < w.heap.size) (hlo : lo ≤ hi) (hL : L.length + 1 ≤ maxLen) (hLb : (L.length + 1) * bytes ≤ 140737488355328) :
    ∃ v' w' xs' Sf', (Builtin.append_ #[t, t] ty #[v, .slice (some ⟨blk, 0, none⟩) 1 c]).run P w = .ok v' w' ∧ App E w' lo w'.heap.size T v' (L ++ [x]) xs' Sf' ∧ w.grownBy w' v.ownBlock ∧ (∀ k, v'.ownBlock = some k → v.ownBlock = some k ∨ k = w.heap.size) ∧ (∀ i k, Sf' i k → Sf i k ∨ Sx k) := by
  have hul := hE.ow_len hx
  obtain ⟨v', w', hrun, hown, hg, _, hat⟩ := run_append_own_at (P := P) w lo t ty T i z E.size bytes ht hi' hz hsize hby hzs hpos v L.length xs h.own ⟨blk, 0, none⟩ 1 c us (by rw [hul, Nat.one_mul])
    (fun j u hj => by
      have hadd : (⟨blk, 0, none⟩ : Addr).add j = ⟨blk, j, none⟩ := by unfold Addr.add; split <;> simp_all
      rw [hadd]
      exact hrow j u hj) (hE.one (hE.ow_rd (B := w.heap.size) hx fun k hk => (hS k hk).2)) hL hLb (Nat.le_trans hlo h.le)
  have hsz := hg.size
  have hle := h.le
  have hxl : xs.length = L.length * E.size := h.own.1
  have hnb : ∀ k, hi ≤ k → some k ≠ v.ownBlock := fun k hk e => by have := (h.blk k e.symm).2; omega
  refine ⟨v', w', xs ++ us, fun q k => if q = L.length then Sx k else Sf q k, hrun, ⟨by rw [List.length_append]; exact hown, fun q y hy => ?_, fun q k hk => ?_, fun q r k hqr hk => ?_, fun k hk => ?_, Nat.le_refl _⟩, hg, fun k hk => ?_, fun q k hk => ?_⟩
  · by_cases hq : q < L.length
    · rw [List.getElem?_append_left hq] at hy
      obtain ⟨vs, h1, h2⟩ := h.el q y hy
      refine ⟨vs, fun j d hj => ?_, ?_⟩
      · have h3 := h1 j d hj
        rw [List.getElem?_append_left (List.getElem?_eq_some_iff.1 h3).1]
        exact h3
      · simp only [show ¬ q = L.length from by omega, if_false]
        exact hE.ow_keep h2 fun k hk => hg.block k (Nat.lt_of_lt_of_le (h.sub q k hk).2.1 hle) (fun e => (h.sub q k hk).2.2 e.symm)
    · rw [List.getElem?_append_right (by omega)] at hy
      have hq2 : q = L.length := by
        have := (List.getElem?_eq_some_iff.1 hy).1
        simp at this
        omega
      subst hq2
      simp at hy
      subst hy
      refine ⟨us, fun j d hj => ?_, ?_⟩
      · rw [List.getElem?_append_right (by omega), hxl, Nat.add_sub_cancel_left]
        exact hj
      · simp only [if_true]
        exact hE.ow_keep hx fun k hk => hg.block k (hS k hk).2 (hnb k (hS k hk).1)
  · have hne : ∀ k, k < w.heap.size → v.ownBlock ≠ some k → v'.ownBlock ≠ some k := fun k hk hn e => by
      rcases hat with e2 | e2
      · exact hn (e2 ▸ e)
      · rw [e2] at e
        cases e
        omega
    by_cases hq : q = L.length
    · simp only [hq, if_true] at hk
      have := hS k hk
      exact ⟨by omega, by omega, hne k this.2 (fun e => hnb k this.1 e.symm)⟩
    · simp only [hq, if_false] at hk
      have := h.sub q k hk
      exact ⟨this.1, by omega, hne k (by omega) this.2.2⟩
  · by_cases hq : q = L.length
    · simp only [hq, if_true] at hk
      simp only [show ¬ r = L.length from by omega, if_false]
      intro h2
      have h3 := (h.sub r k h2).2.1
      have h4 := (hS k hk).1
      omega
    · simp only [hq, if_false] at hk
      by_cases hr : r = L.length
      · simp only [hr, if_true]
        intro h2
        have h3 := (h.sub q k hk).2.1
        have h4 := (hS k h2).1
        omega
      · simp only [hr, if_false]
        exact h.dis q r k hqr hk
  · rcases hat with e2 | e2
    · rw [e2] at hk
      have := h.blk k hk
      omega
    · rw [e2] at hk
      cases hk
      rcases hown.2 with ⟨hn, h0⟩ | ⟨g, cap, cur, hv, hlog, hgg, _⟩
      · rw [hn] at e2
        cases e2
      · rw [hv] at e2
        cases e2
        exact ⟨hlog, (Array.getElem?_eq_some_iff.1 hgg).1⟩
  · rcases hat with e2 | e2
    · exact .inl (e2 ▸ hk)
    · rw [e2] at hk
      cases hk
      exact .inr rfl
  · by_cases hq : q = L.length
    · simp only [hq, if_true] at hk
      exact .inr hk
    · simp only [hq, if_false] at hk
      exact .inl hk
theorem App.app {P : Program} (hE : Ok E) (h : App E w lo hi T v L xs Sf) {t ty : TypeId} {i : TypeInfo} {z : Value} {bytes : Nat} (ht : P.underlying t = some (.slice T)) (hi' : P.info? T = some i) (hz : i.zero = some z) (hsize : i.size = E.size) (hby : i.bytes = bytes) (hzs : z.cells.size = E.size) (hpos : 0 < E.size)
    {x : α} {us : List Value} {Sx : Nat → Prop} {blk c : Nat} (hrow : ∀ j u, us[j]? = some u → w.cell? ⟨blk, j, none⟩ = some u) (hx : E.ow w Sx x us) (hS : ∀ k, Sx k → hi ≤ k ∧ k < w.heap.size) (hlo : lo ≤ hi) (hL : L.length + 1 ≤ maxLen) (hLb : (L.length + 1) * bytes ≤ 140737488355328) :
    ∃ v' w' xs' Sf', (Builtin.append_ #[t, t] ty #[v, .slice (some ⟨blk, 0, none⟩) 1 c]).run P w = .ok v' w' ∧ App E w' lo w'.heap.size T v' (L ++ [x]) xs' Sf' ∧ w.grownBy w' v.ownBlock := by
  obtain ⟨v', w', xs', Sf', h1, h2, h3, _⟩ := h.app2 (ty := ty) (c := c) hE ht hi' hz hsize hby hzs hpos hrow hx hS hlo hL hLb
  exact ⟨v', w', xs', Sf', h1, h2, h3⟩
theorem App.mv2 (hE : Ok E) (h : App E w lo hi T v L xs Sf) (hs : w.heap.size ≤ w'.heap.size) (hb : ∀ k, v.ownBlock = some k → w'.heap[k]? = w.heap[k]?) (hb2 : ∀ i k, Sf i k → w'.heap[k]? = w.heap[k]?) : App E w' lo hi T v L xs Sf := by
  refine ⟨?_, fun i x hx => ?_, h.sub, h.dis, h.blk, Nat.le_trans h.le hs⟩
  · obtain ⟨h1, h2⟩ := h.own
    refine ⟨h1, ?_⟩
    rcases h2 with h2 | ⟨g, cap, cur, rfl, hlo, hg, h3⟩
    · exact .inl h2
    · exact .inr ⟨g, cap, cur, rfl, hlo, (hb g rfl).trans hg, h3⟩
  · obtain ⟨us, h1, h2⟩ := h.el i x hx
    exact ⟨us, h1, hE.ow_keep h2 fun k hk => hb2 i k hk⟩
end
end Go.Proofs.Ytkghodbbgehcoaa.RepC
end
section
namespace Go.Proofs.Ytkghodbbgehcoaa.RepC
open Go.RowKit RowC ValC
set_option linter.unusedVariables false
set_option linter.unusedSimpArgs false
theorem own_cap {W : World} {lo : Nat} {T : TypeId} {size n : Nat} {v : Value} {c : Nat → Value} (h : RowO W lo T size v n c) : ∀ a cap, v = .slice a n cap → cap ≤ maxLen := by
  rintro a cap rfl
  rcases h.2 with ⟨h1, h2⟩ | ⟨g, cap', cur, hv, _, _, _, hm, _⟩
  · cases h1
    exact Nat.zero_le _
  · cases hv
    exact hm
theorem own_ints {W : World} {lo : Nat} {T : TypeId} {v : Value} {L : List Int} {c : Nat → Value} (h : RowO W lo T 1 v L.length c) (hc : ∀ j x, L[j]? = some x → c j = .int .i64 x) :
    ∃ a cap, v = .slice a L.length cap ∧ OwSl I W (Rg lo W.heap.size) L a cap := by
  obtain ⟨a, cap, rfl⟩ := h.isSlice
  have hm := own_cap h a cap rfl
  by_cases hn : 0 < L.length
  · obtain ⟨g, cap', hv, hlo, hg, hl, hcs, hf⟩ := h.form hn
    cases hv
    refine ⟨_, _, rfl, hl, hm, fun _ => ⟨g, fun _ _ => False, rfl, ⟨hlo, hg⟩, hf, fun i k h => h.elim, fun i j k _ h => h.elim, fun i x hx => ⟨[.int .i64 x], fun j d hd => ?_, rfl⟩⟩⟩
    have hj : j = 0 := by have := (List.getElem?_eq_some_iff.1 hd).1; simp at this; omega
    subst hj
    simp at hd
    subst hd
    have := hcs i (by have := (List.getElem?_eq_some_iff.1 hx).1; omega)
    rw [hc i x hx] at this
    simpa [show I.size = 1 from rfl] using this
  · have hn0 : L.length = 0 := by omega
    refine ⟨a, cap, rfl, ?_, hm, fun h => absurd h hn⟩
    rcases h.2 with ⟨h1, h2⟩ | ⟨g, cap', cur, hv, _, _, hl, _⟩
    · omega
    · omega
theorem info_i64 : ∃ i, Try.prog.info? 2 = some i ∧ i.zero = some (.int .i64 0) ∧ i.size = 1 ∧ i.bytes = 8 := by
  have h : (Try.prog.info? 2).map (fun i => (i.zero, i.size, i.bytes)) = some (some (.int .i64 0), 1, 8) := by kernel_rfl
  cases hx : Try.prog.info? 2 with
  | none => rw [hx] at h; simp at h
  | some i => rw [hx] at h; simp at h; exact ⟨i, rfl, h.1, h.2.1, h.2.2⟩
theorem app_copy {L : List Int} {a : Option Addr} {cap : Nat} {W : World} {ty : TypeId} (hn : L.length ≤ 1048576) (h : RdSl I W W.heap.size L a cap) :
    ∃ a' c' W', (Builtin.append_ #[37, 37] ty #[.slice (some ⟨W.heap.size, 0, none⟩) 0 0, .slice a L.length cap]).run Try.prog (W.alloc (.cells #[] 2)) = .ok (.slice a' L.length c') W' ∧ OwSl I W' (Rg W.heap.size W'.heap.size) L a' c' ∧ Below W.heap.size W W' := by
  obtain ⟨i, hi, hz, hs, hb⟩ := info_i64
  have hbel : Below W.heap.size W (W.alloc (.cells #[] 2)) := (Below.refl _ _).alloc (Nat.le_refl _) _
  have hown := RowO.made0 W W.heap.size 2 1 (fun _ => .int .i64 0) (Nat.le_refl _)
  by_cases h0 : L.length = 0
  · have hL : L = [] := List.eq_nil_of_length_eq_zero h0
    subst hL
    exact ⟨_, _, _, app_nil Try.underlying37 hi _ a 0 cap, ⟨Nat.le_refl _, Nat.zero_le _, fun h => absurd h (Nat.lt_irrefl _)⟩, hbel⟩
  · obtain ⟨g, o, rfl, hg, hel⟩ := h.2.2 (by omega)
    have hcell : ∀ j, j < L.length * 1 → W.cell? ⟨g, o + j, none⟩ = some (.int .i64 (L.getD j 0)) := fun j hj => by
      obtain ⟨us, hu, hr⟩ := hel j (L[j]'(by omega)) (List.getElem?_eq_getElem (by omega))
      obtain rfl : us = [_] := hr
      have := hu 0 _ rfl
      rw [List.getD_eq_getElem?_getD, List.getElem?_eq_getElem (by omega)]
      simpa [show I.size = 1 from rfl] using this
    obtain ⟨v', W', hr, hro, hb2, _, _⟩ := run_app (P := Try.prog) (W.alloc (.cells #[] 2)) W.heap.size 37 ty 2 i _ 1 8 Try.underlying37 hi hz hs hb rfl (by omega) _ 0 _ hown g o L.length cap (fun j => .int .i64 (L.getD j 0))
      (fun j hj => (hbel.cell (p := ⟨g, o + j, none⟩) hg).trans (hcell j hj)) (fun j hj => rfl) (by unfold maxLen; omega) (by omega) (by simp)
    rw [Nat.zero_add] at hro
    obtain ⟨a', c', rfl, hos⟩ := own_ints hro (fun j x hx => by
      have hj := (List.getElem?_eq_some_iff.1 hx).1
      simp [List.getD_eq_getElem?_getD, hx])
    exact ⟨a', c', W', hr, hos, hbel.trans hb2⟩
set_option maxHeartbeats 1600000 in
theorem clone_ints {L : List Int} {a : Option Addr} {cap : Nat} {W : World} (hn : L.length ≤ 1048576) (h : RdSl I W W.heap.size L a cap) :
    Calls Try.prog 122 #[.slice a L.length cap] W (NewS I L W) := by
  have qT : ∀ (w : World) (a : Option Addr) (n c n' c' : Nat), (binOp .eql 37 (.slice a n c) (.slice none n' c')).run Try.prog w = .ok (.bool a.isNone) w := fun w a n c n' c' => Lib.run_eql_slice_nil w _ _ a n c n' c' Try.underlying37
  cases a with
  | none =>
    have h0 : L.length = 0 := by
      by_cases hp : 0 < L.length
      · obtain ⟨g, o, he, _⟩ := h.2.2 hp
        cases he
      · omega
    have hL : L = [] := List.eq_nil_of_length_eq_zero h0
    subst hL
    go_enter Try.func122, Try.ntmps122
    go_wp2
    go_ret
    exact ⟨none, 0, rfl, ⟨Nat.le_refl _, Nat.zero_le _, fun h => absurd h (Nat.lt_irrefl _)⟩, Below.refl _ _⟩
  | some x =>
    obtain ⟨a', c', w5, hr, hos, hb⟩ := app_copy (ty := 37) hn h
    have HR := Lib.hid hr
    have HO := Lib.hid hos
    have HB := Lib.hid hb
    clear hr hos hb h
    go_enter Try.func122, Try.ntmps122
    go_wp2_with (at_builtin; refine wpList_app rfl (.tmp 5) (.tmp 6) 37 rfl rfl rfl HR.out ?_)
    go_ret
    exact ⟨a', c', rfl, HO.out, HB.out⟩
theorem setCell_id {w : World} {g i : Nat} {v : Value} (h : w.cell? ⟨g, i, none⟩ = some v) : w.setCell ⟨g, i, none⟩ v = w := by
  have e : (w.setCell ⟨g, i, none⟩ v).heap = w.heap := by
    unfold World.setCell
    apply Array.ext_getElem?
    intro j
    show (Array.modify _ _ _)[j]? = _
    rw [Array.getElem?_modify]
    by_cases hj : g = j
    · subst hj
      rw [if_pos rfl]
      unfold World.cell? at h
      cases ho : w.heap[g]? with
      | none => rfl
      | some o =>
        rw [ho] at h
        cases o with
        | cells c t f =>
          simp at h
          simp only [Option.map_some, Option.isSome_none, Bool.false_eq_true, if_false]
          congr 2
          apply Array.ext_getElem?
          intro q
          rw [Array.getElem?_setIfInBounds]
          by_cases hq : i = q
          · subst hq
            rw [if_pos rfl]
            have := (Array.getElem?_eq_some_iff.1 h).1
            rw [if_pos this, h]
          · rw [if_neg hq]
        | _ => simp at h
    · rw [if_neg hj]
  have e2 : w.setCell ⟨g, i, none⟩ v = { w with heap := (w.setCell ⟨g, i, none⟩ v).heap } := rfl
  rw [e2, e]
end Go.Proofs.Ytkghodbbgehcoaa.RepC
end
section
namespace Go.Proofs.Ytkghodbbgehcoaa.CloneM
open Go.RowKit
theorem info_u8 : (Try.prog.info? 5).map (fun i => (i.zero, i.size, i.bytes)) = some (some (.int .u8 0), 1, 1) := by kernel_rfl
theorem ret_str {a b : ByteArray} (h : a = b) : Ending.returned (.string a) = .returned (.string b) := by rw [h]
def bytesOf (l : List UInt8) : ByteArray := ⟨l.toArray⟩
theorem info_size : (Try.prog.info? 5).map (·.size) = some 1 := by kernel_rfl
theorem make_bytes (w : World) (n : Int) (h0 : 0 ≤ n) (h1 : n ≤ 140737488355328) :
    ∃ w1, (Instr.makeSlice 22 (.int .i64 n) (.int .i64 n)).run Try.prog w = .ok (.slice (some ⟨w.heap.size, 0, none⟩) n.toNat n.toNat) w1 ∧
      (∃ cur : Array Value, cur.size = n.toNat ∧ w1.heap[w.heap.size]? = some (.cells cur 5 (0, 0))) ∧ Below w.heap.size w w1 ∧ w.heap.size < w1.heap.size := by
  obtain ⟨i, hi, hz0, hz1, hz2⟩ := info_parts info_u8
  refine ⟨_, run_make w 22 5 i _ Try.underlying22 hi hz0 .i64 .i64 n n h0 (Int.le_refl _) (by rw [hz2]; omega) (by omega), ?_, (Below.refl _ _).alloc (Nat.le_refl _) _, ?_⟩
  · refine ⟨_, ?_, heap_alloc_new _ _⟩
    rw [size_madeCells, hz1]
    omega
  · show _ < (w.heap.push _).size
    simp
theorem copy_str (w : World) (g o dLen dCap : Nat) (s : ByteArray) (cur : Array Value) (ty : TypeId) (hg : w.heap[g]? = some (.cells cur 5 (0, 0))) (hle : s.size ≤ dLen) (hfit : o + s.size ≤ cur.size) :
    ∃ w1, (Builtin.copy_ #[22, 9] ty #[.slice (some ⟨g, o, none⟩) dLen dCap, .string s]).run Try.prog w = .ok (goInt s.size) w1 ∧
      w1.heap[g]? = some (.cells (cur.toList.take o ++ Lib.byteCells s.data.toList ++ cur.toList.drop (o + s.size)).toArray 5 (0, 0)) ∧ Below g w w1 :=
  ⟨_, Lib.run_copy_row_string w 22 9 ty 5 g o dLen dCap s cur 5 Try.underlying22 info_size hg hle hfit, setRow_heap w g cur _ _ _ hg, below_setRow (Below.refl _ _) (Nat.le_refl _) _⟩
theorem unsafe_row {w : World} {g : Nat} {l : List UInt8} (h : w.heap[g]? = some (.cells (Lib.byteCells l).toArray 5 (0, 0))) (h0 : l.length ≠ 0) (hl : l.length ≤ 9223372036854775807) :
    (Builtin.unsafeString_ #[143, 3] 9 #[.pointer (some ⟨g, 0, none⟩), .int .i64 l.length]).run Try.prog w = .ok (.string (bytesOf l)) (w.freeze ⟨g, 0, none⟩ l.length) :=
  Lib.run_unsafeString_row w 143 3 9 5 Try.underlying143 (by kernel_rfl) g l.length (by simp [World.shape?, h, Lib.byteCells]) l (fun e => h0 (by rw [e]; rfl)) (Nat.le_refl _) hl (fun j x hj => by
    have hlt := (List.getElem?_eq_some_iff.1 hj).1
    have e : (⟨g, 0, none⟩ : Addr).add j = ⟨g, j, none⟩ := by cases j <;> simp [Addr.add]
    rw [e]
    rw [List.getElem?_eq_getElem hlt] at hj
    simp at hj
    subst hj
    simp [World.cell?, h, Lib.byteCells, hlt])
set_option maxRecDepth 100000 in
set_option maxHeartbeats 104857600 in
theorem clone_lite (s : ByteArray) (w : World) (hs : s.size ≤ 1048576) :
    Calls Try.prog 130 #[.string s] w fun e w' => e = .returned (.string s) ∧ Below w.heap.size w w' := by
  by_cases h0 : s.size = 0
  · have he : Hid (s = ByteArray.empty) := Lib.hid (ByteArray.ext (Array.eq_empty_of_size_eq_zero h0))
    have hb : ((s.size : Int) == 0) = true := by simp [h0]
    go_enter Try.func130, Try.ntmps130
    go_wp2
    go_ret
    exact ⟨ret_str he.out.symm, Below.refl _ _⟩
  · have hb : ((s.size : Int) == 0) = false := by simp [h0]
    obtain ⟨w1, hmk, ⟨cur, hcs, hg1⟩, hb1, hz1⟩ := make_bytes w (s.size : Int) (by omega) (by omega)
    have hn : ((s.size : Int)).toNat = s.size := by omega
    rw [hn] at hmk hcs
    obtain ⟨w2, hc1, hg2, hb2⟩ := copy_str w1 w.heap.size 0 s.size s.size s cur 3 hg1 (by omega) (by omega)
    have hg3 : w2.heap[w.heap.size]? = some (.cells (Lib.byteCells s.data.toList).toArray 5 (0, 0)) := by
      rw [hg2]
      have e : cur.toList.drop (0 + s.size) = [] := List.drop_of_length_le (by simp [hcs])
      rw [e]
      simp
    have hun := unsafe_row hg3 (by rw [← Lib.size_eq]; exact h0) (by rw [← Lib.size_eq]; omega)
    rw [← Lib.size_eq, show bytesOf s.data.toList = s from ByteArray.ext (by simp [bytesOf])] at hun
    have HB : Hid (Below w.heap.size w (w2.freeze ⟨w.heap.size, 0, none⟩ s.size)) := Lib.hid (Lib.below_freeze (hb1.trans hb2) (Nat.le_refl _) _)
    have hp : 0 < s.size := by omega
    clear hg1 hg2 hg3 hb1 hb2 hcs hz1 hn h0
    go_enter Try.func130, Try.ntmps130
    go_wp2
    go_ret
    exact ⟨rfl, HB.out⟩
theorem clone_any (s : ByteArray) (w : World) (hs : s.size ≤ 1048576) :
    Calls Try.prog 108 #[.string s] w fun e w' => e = .returned (.string s) ∧ Below w.heap.size w w' := by
  go_enter Try.func108, Try.ntmps108
  go_wp2_with fail
  refine (clone_lite _ _ hs).mono ?_
  rintro e w1 ⟨rfl, hb1⟩
  have HB1 := Lib.hid hb1
  clear hb1
  go_wp2
  go_ret
  exact ⟨rfl, HB1.out⟩
end Go.Proofs.Ytkghodbbgehcoaa.CloneM
end
section
namespace Go.Proofs.Ytkghodbbgehcoaa.RepC
open Go.RowKit RowC ValC SpanC KeptC NameC
set_option linter.unusedVariables false
set_option linter.unusedSimpArgs false
set_option maxRecDepth 100000 in
set_option maxHeartbeats 1600000 in
theorem copyT_spec {x0 x1 x2 : Int} {x3 : ByteArray} {x4 x5 x6 x7 x8 x9 x10 x11 x12 : Int} {L : List Int} {a : Option Addr} {c : Nat} {W : World} (b_x3 : x3.size ≤ maxLen) (hn : L.length ≤ 1048576) (h : RdSl I W W.heap.size L a c) :
    Calls Try.prog 86 #[.agg #[.int .i64 x0, .int .i64 x1, .int .i64 x2, .string x3, .int .i64 x4, .int .i64 x5, .int .i64 x6, .int .i64 x7, .int .i64 x8, .int .i64 x9, .int .i64 x10, .int .i64 x11, .int .i64 x12, .slice a L.length c]] W (NewV R_Task ((x0, x1), x2, x3, x4, x5, x6, (x7, x8), x9, x10, x11, x12, L) W) := by
  have HX3 := Lib.hid b_x3
  have hB0 : Below W.heap.size W ((W.alloc (.cells #[.int .i64 x0, .int .i64 x1, .int .i64 x2, .string x3, .int .i64 x4, .int .i64 x5, .int .i64 x6, .int .i64 x7, .int .i64 x8, .int .i64 x9, .int .i64 x10, .int .i64 x11, .int .i64 x12, .slice a L.length c] 43)).alloc (.cells #[.int .i64 0, .int .i64 0, .int .i64 0, .string ⟨#[]⟩, .int .i64 0, .int .i64 0, .int .i64 0, .int .i64 0, .int .i64 0, .int .i64 0, .int .i64 0, .int .i64 0, .int .i64 0, .slice none 0 0] 43)) := ((Below.refl _ _).alloc (Nat.le_refl _) _).alloc (by simp) _
  obtain ⟨a', c', w5, hr, hos, hb⟩ := app_copy (ty := 37) hn ((h.below I_ok hB0).more I_ok hB0.size)
  have hP := (Blk.new W 43 #[.int .i64 x0, .int .i64 x1, .int .i64 x2, .string x3, .int .i64 x4, .int .i64 x5, .int .i64 x6, .int .i64 x7, .int .i64 x8, .int .i64 x9, .int .i64 x10, .int .i64 x11, .int .i64 x12, .slice a L.length c]).alloc (.cells #[.int .i64 0, .int .i64 0, .int .i64 0, .string ⟨#[]⟩, .int .i64 0, .int .i64 0, .int .i64 0, .int .i64 0, .int .i64 0, .int .i64 0, .int .i64 0, .int .i64 0, .int .i64 0, .slice none 0 0] 43)
  have hR := Blk.new (W.alloc (.cells #[.int .i64 x0, .int .i64 x1, .int .i64 x2, .string x3, .int .i64 x4, .int .i64 x5, .int .i64 x6, .int .i64 x7, .int .i64 x8, .int .i64 x9, .int .i64 x10, .int .i64 x11, .int .i64 x12, .slice a L.length c] 43)) 43 #[.int .i64 0, .int .i64 0, .int .i64 0, .string ⟨#[]⟩, .int .i64 0, .int .i64 0, .int .i64 0, .int .i64 0, .int .i64 0, .int .i64 0, .int .i64 0, .int .i64 0, .int .i64 0, .slice none 0 0]
  have hP5 := Lib.hid (hP.call hb)
  have hR5 := Lib.hid (hR.call hb)
  have HB5 := Lib.hid (hB0.trans (hb.mono hB0.size))
  have hsz5 := hb.size
  simp only [World.size_alloc] at hr
  have HR := Lib.hid hr
  have HO := Lib.hid hos
  simp only [World.size_alloc] at hsz5 hP hR
  have hgo : W.heap.size + 2 ≤ w5.heap.size := hsz5
  have p0 := hP.at_ 0 rfl
  have p1 := hP.at_ 1 rfl
  have p2 := hP.at_ 2 rfl
  have p3 := hP.at_ 3 rfl
  have p4 := hP.at_ 4 rfl
  have p5 := hP.at_ 5 rfl
  have p6 := hP.at_ 6 rfl
  have p7 := hP.at_ 7 rfl
  have p8 := hP.at_ 8 rfl
  have p9 := hP.at_ 9 rfl
  have p10 := hP.at_ 10 rfl
  have p11 := hP.at_ 11 rfl
  have p12 := hP.at_ 12 rfl
  have p13 := hP.at_ 13 rfl
  clear hP hR hB0 hr hos hb h
  have hRx := hR5.out
  simp only [World.size_alloc] at hRx
  have HR5 := Lib.hid hRx
  have q0 := hP5.out.at_ 0 rfl
  have f0 := hP5.out.soft 0
  have r0 := HR5.out.at_ 0 rfl
  have g0 := HR5.out.soft 0
  have q1 := hP5.out.at_ 1 rfl
  have f1 := hP5.out.soft 1
  have r1 := HR5.out.at_ 1 rfl
  have g1 := HR5.out.soft 1
  have q2 := hP5.out.at_ 2 rfl
  have f2 := hP5.out.soft 2
  have r2 := HR5.out.at_ 2 rfl
  have g2 := HR5.out.soft 2
  have q3 := hP5.out.at_ 3 rfl
  have f3 := hP5.out.soft 3
  have r3 := HR5.out.at_ 3 rfl
  have g3 := HR5.out.soft 3
  have q4 := hP5.out.at_ 4 rfl
  have f4 := hP5.out.soft 4
  have r4 := HR5.out.at_ 4 rfl
  have g4 := HR5.out.soft 4
  have q5 := hP5.out.at_ 5 rfl
  have f5 := hP5.out.soft 5
  have r5 := HR5.out.at_ 5 rfl
  have g5 := HR5.out.soft 5
  have q6 := hP5.out.at_ 6 rfl
  have f6 := hP5.out.soft 6
  have r6 := HR5.out.at_ 6 rfl
  have g6 := HR5.out.soft 6
  have q7 := hP5.out.at_ 7 rfl
  have f7 := hP5.out.soft 7
  have r7 := HR5.out.at_ 7 rfl
  have g7 := HR5.out.soft 7
  have q8 := hP5.out.at_ 8 rfl
  have f8 := hP5.out.soft 8
  have r8 := HR5.out.at_ 8 rfl
  have g8 := HR5.out.soft 8
  have q9 := hP5.out.at_ 9 rfl
  have f9 := hP5.out.soft 9
  have r9 := HR5.out.at_ 9 rfl
  have g9 := HR5.out.soft 9
  have q10 := hP5.out.at_ 10 rfl
  have f10 := hP5.out.soft 10
  have r10 := HR5.out.at_ 10 rfl
  have g10 := HR5.out.soft 10
  have q11 := hP5.out.at_ 11 rfl
  have f11 := hP5.out.soft 11
  have r11 := HR5.out.at_ 11 rfl
  have g11 := HR5.out.soft 11
  have q12 := hP5.out.at_ 12 rfl
  have f12 := hP5.out.soft 12
  have r12 := HR5.out.at_ 12 rfl
  have g12 := HR5.out.soft 12
  have q13 := hP5.out.at_ 13 rfl
  have f13 := hP5.out.soft 13
  have r13 := HR5.out.at_ 13 rfl
  have g13 := HR5.out.soft 13
  clear hRx hR5 b_x3
  go_enter Try.func86, Try.ntmps86
  go_wp2_with (at_builtin; refine wpList_app rfl (.tmp 3) (.tmp 5) 37 rfl rfl rfl HR.out ?_)
  refine bodyPost_ret (v := .agg #[.int .i64 x0, .int .i64 x1, .int .i64 x2, .string x3, .int .i64 x4, .int .i64 x5, .int .i64 x6, .int .i64 x7, .int .i64 x8, .int .i64 x9, .int .i64 x10, .int .i64 x11, .int .i64 x12, .slice a' L.length c']) (by simp [results, Try.results86, go_sem, *]) rfl ⟨[.int .i64 x0, .int .i64 x1, .int .i64 x2, .string x3, .int .i64 x4, .int .i64 x5, .int .i64 x6, .int .i64 x7, .int .i64 x8, .int .i64 x9, .int .i64 x10, .int .i64 x11, .int .i64 x12, .slice a' L.length c'], rfl, ?_, (((((((((((((((HB5.out.setCell (p := ⟨W.heap.size, 13, none⟩) (by show W.heap.size ≤ W.heap.size; omega) (.slice a' L.length c')).setCell (p := ⟨W.heap.size + 1, 0, none⟩) (by show W.heap.size ≤ W.heap.size + 1; omega) (.int .i64 x0)).setCell (p := ⟨W.heap.size + 1, 1, none⟩) (by show W.heap.size ≤ W.heap.size + 1; omega) (.int .i64 x1)).setCell (p := ⟨W.heap.size + 1, 2, none⟩) (by show W.heap.size ≤ W.heap.size + 1; omega) (.int .i64 x2)).setCell (p := ⟨W.heap.size + 1, 3, none⟩) (by show W.heap.size ≤ W.heap.size + 1; omega) (.string x3)).setCell (p := ⟨W.heap.size + 1, 4, none⟩) (by show W.heap.size ≤ W.heap.size + 1; omega) (.int .i64 x4)).setCell (p := ⟨W.heap.size + 1, 5, none⟩) (by show W.heap.size ≤ W.heap.size + 1; omega) (.int .i64 x5)).setCell (p := ⟨W.heap.size + 1, 6, none⟩) (by show W.heap.size ≤ W.heap.size + 1; omega) (.int .i64 x6)).setCell (p := ⟨W.heap.size + 1, 7, none⟩) (by show W.heap.size ≤ W.heap.size + 1; omega) (.int .i64 x7)).setCell (p := ⟨W.heap.size + 1, 8, none⟩) (by show W.heap.size ≤ W.heap.size + 1; omega) (.int .i64 x8)).setCell (p := ⟨W.heap.size + 1, 9, none⟩) (by show W.heap.size ≤ W.heap.size + 1; omega) (.int .i64 x9)).setCell (p := ⟨W.heap.size + 1, 10, none⟩) (by show W.heap.size ≤ W.heap.size + 1; omega) (.int .i64 x10)).setCell (p := ⟨W.heap.size + 1, 11, none⟩) (by show W.heap.size ≤ W.heap.size + 1; omega) (.int .i64 x11)).setCell (p := ⟨W.heap.size + 1, 12, none⟩) (by show W.heap.size ≤ W.heap.size + 1; omega) (.int .i64 x12)).setCell (p := ⟨W.heap.size + 1, 13, none⟩) (by show W.heap.size ≤ W.heap.size + 1; omega) (.slice a' L.length c'))⟩
  have hoff := ((((((((((((((((Off.refl (fun x => x < W.heap.size + 2) w5).setCell (p := ⟨W.heap.size, 13, none⟩) (by show W.heap.size < W.heap.size + 2; omega) (.slice a' L.length c')).setCell (p := ⟨W.heap.size + 1, 0, none⟩) (by show W.heap.size + 1 < W.heap.size + 2; omega) (.int .i64 x0)).setCell (p := ⟨W.heap.size + 1, 1, none⟩) (by show W.heap.size + 1 < W.heap.size + 2; omega) (.int .i64 x1)).setCell (p := ⟨W.heap.size + 1, 2, none⟩) (by show W.heap.size + 1 < W.heap.size + 2; omega) (.int .i64 x2)).setCell (p := ⟨W.heap.size + 1, 3, none⟩) (by show W.heap.size + 1 < W.heap.size + 2; omega) (.string x3)).setCell (p := ⟨W.heap.size + 1, 4, none⟩) (by show W.heap.size + 1 < W.heap.size + 2; omega) (.int .i64 x4)).setCell (p := ⟨W.heap.size + 1, 5, none⟩) (by show W.heap.size + 1 < W.heap.size + 2; omega) (.int .i64 x5)).setCell (p := ⟨W.heap.size + 1, 6, none⟩) (by show W.heap.size + 1 < W.heap.size + 2; omega) (.int .i64 x6)).setCell (p := ⟨W.heap.size + 1, 7, none⟩) (by show W.heap.size + 1 < W.heap.size + 2; omega) (.int .i64 x7)).setCell (p := ⟨W.heap.size + 1, 8, none⟩) (by show W.heap.size + 1 < W.heap.size + 2; omega) (.int .i64 x8)).setCell (p := ⟨W.heap.size + 1, 9, none⟩) (by show W.heap.size + 1 < W.heap.size + 2; omega) (.int .i64 x9)).setCell (p := ⟨W.heap.size + 1, 10, none⟩) (by show W.heap.size + 1 < W.heap.size + 2; omega) (.int .i64 x10)).setCell (p := ⟨W.heap.size + 1, 11, none⟩) (by show W.heap.size + 1 < W.heap.size + 2; omega) (.int .i64 x11)).setCell (p := ⟨W.heap.size + 1, 12, none⟩) (by show W.heap.size + 1 < W.heap.size + 2; omega) (.int .i64 x12)).setCell (p := ⟨W.heap.size + 1, 13, none⟩) (by show W.heap.size + 1 < W.heap.size + 2; omega) (.slice a' L.length c'))
  have hsz := hoff.size
  have hos := HO.out
  simp only [World.size_alloc] at hos
  exact mkow_Task (fun k hk => ⟨by have := hk.1; omega, by have := hk.2; omega⟩) (hos.keep I_ok (fun k hk => hoff.block k hk.2 (by have := hk.1; omega))) HX3.out
set_option maxRecDepth 100000 in
set_option maxHeartbeats 1600000 in
theorem copyT_impl {x0 x1 x2 : Int} {x3 : ByteArray} {x4 x5 x6 x7 x8 x9 x10 x11 x12 : Int} {L : List Int} {a : Option Addr} {c : Nat} {W : World} (b_x3 : x3.size ≤ 1048576) (hn : L.length ≤ 1048576) (h : RdSl I W W.heap.size L a c) :
    Calls Try.prog 87 #[.agg #[.int .i64 x0, .int .i64 x1, .int .i64 x2, .string x3, .int .i64 x4, .int .i64 x5, .int .i64 x6, .int .i64 x7, .int .i64 x8, .int .i64 x9, .int .i64 x10, .int .i64 x11, .int .i64 x12, .slice a L.length c]] W (NewV R_Task ((x0, x1), x2, x3, x4, x5, x6, (x7, x8), x9, x10, x11, x12, L) W) := by
  have HX3 := Lib.hid (show x3.size ≤ maxLen from by unfold maxLen; omega)
  obtain ⟨w0, hw0⟩ : ∃ w, w = (W.alloc (.cells #[.int .i64 x0, .int .i64 x1, .int .i64 x2, .string x3, .int .i64 x4, .int .i64 x5, .int .i64 x6, .int .i64 x7, .int .i64 x8, .int .i64 x9, .int .i64 x10, .int .i64 x11, .int .i64 x12, .slice a L.length c] 43)).alloc (.cells #[.int .i64 0, .int .i64 0, .int .i64 0, .string ⟨#[]⟩, .int .i64 0, .int .i64 0, .int .i64 0, .int .i64 0, .int .i64 0, .int .i64 0, .int .i64 0, .int .i64 0, .int .i64 0, .slice none 0 0] 43) := ⟨_, rfl⟩
  have hB0 : Below W.heap.size W w0 := by rw [hw0]; exact ((Below.refl _ _).alloc (Nat.le_refl _) _).alloc (by simp) _
  have HP0 := Lib.hid (show Blk w0 W.heap.size 43 #[.int .i64 x0, .int .i64 x1, .int .i64 x2, .string x3, .int .i64 x4, .int .i64 x5, .int .i64 x6, .int .i64 x7, .int .i64 x8, .int .i64 x9, .int .i64 x10, .int .i64 x11, .int .i64 x12, .slice a L.length c] from by rw [hw0]; exact (Blk.new W 43 #[.int .i64 x0, .int .i64 x1, .int .i64 x2, .string x3, .int .i64 x4, .int .i64 x5, .int .i64 x6, .int .i64 x7, .int .i64 x8, .int .i64 x9, .int .i64 x10, .int .i64 x11, .int .i64 x12, .slice a L.length c]).alloc (.cells #[.int .i64 0, .int .i64 0, .int .i64 0, .string ⟨#[]⟩, .int .i64 0, .int .i64 0, .int .i64 0, .int .i64 0, .int .i64 0, .int .i64 0, .int .i64 0, .int .i64 0, .int .i64 0, .slice none 0 0] 43))
  have HR0 := Lib.hid (show Blk w0 (W.heap.size + 1) 43 #[.int .i64 0, .int .i64 0, .int .i64 0, .string ⟨#[]⟩, .int .i64 0, .int .i64 0, .int .i64 0, .int .i64 0, .int .i64 0, .int .i64 0, .int .i64 0, .int .i64 0, .int .i64 0, .slice none 0 0] from by
    have h9 := Blk.new (W.alloc (.cells #[.int .i64 x0, .int .i64 x1, .int .i64 x2, .string x3, .int .i64 x4, .int .i64 x5, .int .i64 x6, .int .i64 x7, .int .i64 x8, .int .i64 x9, .int .i64 x10, .int .i64 x11, .int .i64 x12, .slice a L.length c] 43)) 43 #[.int .i64 0, .int .i64 0, .int .i64 0, .string ⟨#[]⟩, .int .i64 0, .int .i64 0, .int .i64 0, .int .i64 0, .int .i64 0, .int .i64 0, .int .i64 0, .int .i64 0, .int .i64 0, .slice none 0 0]
    simp only [World.size_alloc] at h9
    rw [hw0]; exact h9)
  have HH := Lib.hid ((h.below I_ok hB0).more I_ok hB0.size)
  have HB0 := Lib.hid hB0
  have HN := Lib.hid hn
  clear h hB0
  go_enter Try.func87, Try.ntmps87
  go_upto_region 1 with fail
  rw [← hw0]
  clear hw0
  have q0 := HP0.out.at_ 0 rfl
  have q1 := HP0.out.at_ 1 rfl
  have q2 := HP0.out.at_ 2 rfl
  have q3 := HP0.out.at_ 3 rfl
  have q4 := HP0.out.at_ 4 rfl
  have q5 := HP0.out.at_ 5 rfl
  have q6 := HP0.out.at_ 6 rfl
  have q7 := HP0.out.at_ 7 rfl
  have q8 := HP0.out.at_ 8 rfl
  have q9 := HP0.out.at_ 9 rfl
  have q10 := HP0.out.at_ 10 rfl
  have q11 := HP0.out.at_ 11 rfl
  have q12 := HP0.out.at_ 12 rfl
  have q13 := HP0.out.at_ 13 rfl
  go_wp2_with fail
  refine (CloneM.clone_any x3 _ b_x3).mono ?_
  rintro e w1 ⟨rfl, hb⟩
  have HP1 := Lib.hid (HP0.out.call hb)
  have HR1 := Lib.hid (HR0.out.call hb)
  have HB1 := Lib.hid (HB0.out.trans (hb.mono HB0.out.size))
  have HH1 := Lib.hid ((HH.out.below I_ok hb).more I_ok hb.size)
  have HS := Lib.hid (show w1.setCell ⟨W.heap.size, 3, none⟩ (.string x3) = w1 from setCell_id (HP1.out.at_ 3 rfl))
  clear hb q0 q1 q2 q3 q4 q5 q6 q7 q8 q9 q10 q11 q12 q13
  have q0 := HP1.out.at_ 0 rfl
  have f0 := HP1.out.soft 0
  have q1 := HP1.out.at_ 1 rfl
  have f1 := HP1.out.soft 1
  have q2 := HP1.out.at_ 2 rfl
  have f2 := HP1.out.soft 2
  have q3 := HP1.out.at_ 3 rfl
  have f3 := HP1.out.soft 3
  have q4 := HP1.out.at_ 4 rfl
  have f4 := HP1.out.soft 4
  have q5 := HP1.out.at_ 5 rfl
  have f5 := HP1.out.soft 5
  have q6 := HP1.out.at_ 6 rfl
  have f6 := HP1.out.soft 6
  have q7 := HP1.out.at_ 7 rfl
  have f7 := HP1.out.soft 7
  have q8 := HP1.out.at_ 8 rfl
  have f8 := HP1.out.soft 8
  have q9 := HP1.out.at_ 9 rfl
  have f9 := HP1.out.soft 9
  have q10 := HP1.out.at_ 10 rfl
  have f10 := HP1.out.soft 10
  have q11 := HP1.out.at_ 11 rfl
  have f11 := HP1.out.soft 11
  have q12 := HP1.out.at_ 12 rfl
  have f12 := HP1.out.soft 12
  have q13 := HP1.out.at_ 13 rfl
  have f13 := HP1.out.soft 13
  go_wp2_with fail
  rw [HS.out]
  refine (clone_ints HN.out HH1.out).mono ?_
  intro e w5 h
  obtain ⟨a', c', rfl, hos, hb⟩ := newS_elim h
  have HP5 := Lib.hid (HP1.out.call hb)
  have HR5 := Lib.hid (HR1.out.call hb)
  have HB5 := Lib.hid (HB1.out.trans (hb.mono HB1.out.size))
  have HO := Lib.hid hos
  have hgo : W.heap.size + 2 ≤ w1.heap.size := by have := HR1.out.lt; omega
  have hgo5 : W.heap.size + 2 ≤ w5.heap.size := by have := HR5.out.lt; omega
  clear h hb hos HS q0 f0 q1 f1 q2 f2 q3 f3 q4 f4 q5 f5 q6 f6 q7 f7 q8 f8 q9 f9 q10 f10 q11 f11 q12 f12 q13 f13
  have q0 := HP5.out.at_ 0 rfl
  have f0 := HP5.out.soft 0
  have r0 := HR5.out.at_ 0 rfl
  have g0 := HR5.out.soft 0
  have q1 := HP5.out.at_ 1 rfl
  have f1 := HP5.out.soft 1
  have r1 := HR5.out.at_ 1 rfl
  have g1 := HR5.out.soft 1
  have q2 := HP5.out.at_ 2 rfl
  have f2 := HP5.out.soft 2
  have r2 := HR5.out.at_ 2 rfl
  have g2 := HR5.out.soft 2
  have q3 := HP5.out.at_ 3 rfl
  have f3 := HP5.out.soft 3
  have r3 := HR5.out.at_ 3 rfl
  have g3 := HR5.out.soft 3
  have q4 := HP5.out.at_ 4 rfl
  have f4 := HP5.out.soft 4
  have r4 := HR5.out.at_ 4 rfl
  have g4 := HR5.out.soft 4
  have q5 := HP5.out.at_ 5 rfl
  have f5 := HP5.out.soft 5
  have r5 := HR5.out.at_ 5 rfl
  have g5 := HR5.out.soft 5
  have q6 := HP5.out.at_ 6 rfl
  have f6 := HP5.out.soft 6
  have r6 := HR5.out.at_ 6 rfl
  have g6 := HR5.out.soft 6
  have q7 := HP5.out.at_ 7 rfl
  have f7 := HP5.out.soft 7
  have r7 := HR5.out.at_ 7 rfl
  have g7 := HR5.out.soft 7
  have q8 := HP5.out.at_ 8 rfl
  have f8 := HP5.out.soft 8
  have r8 := HR5.out.at_ 8 rfl
  have g8 := HR5.out.soft 8
  have q9 := HP5.out.at_ 9 rfl
  have f9 := HP5.out.soft 9
  have r9 := HR5.out.at_ 9 rfl
  have g9 := HR5.out.soft 9
  have q10 := HP5.out.at_ 10 rfl
  have f10 := HP5.out.soft 10
  have r10 := HR5.out.at_ 10 rfl
  have g10 := HR5.out.soft 10
  have q11 := HP5.out.at_ 11 rfl
  have f11 := HP5.out.soft 11
  have r11 := HR5.out.at_ 11 rfl
  have g11 := HR5.out.soft 11
  have q12 := HP5.out.at_ 12 rfl
  have f12 := HP5.out.soft 12
  have r12 := HR5.out.at_ 12 rfl
  have g12 := HR5.out.soft 12
  have q13 := HP5.out.at_ 13 rfl
  have f13 := HP5.out.soft 13
  have r13 := HR5.out.at_ 13 rfl
  have g13 := HR5.out.soft 13
  go_wp2
  refine bodyPost_ret (v := .agg #[.int .i64 x0, .int .i64 x1, .int .i64 x2, .string x3, .int .i64 x4, .int .i64 x5, .int .i64 x6, .int .i64 x7, .int .i64 x8, .int .i64 x9, .int .i64 x10, .int .i64 x11, .int .i64 x12, .slice a' L.length c']) (by simp [results, Try.results87, go_sem, *]) rfl ⟨[.int .i64 x0, .int .i64 x1, .int .i64 x2, .string x3, .int .i64 x4, .int .i64 x5, .int .i64 x6, .int .i64 x7, .int .i64 x8, .int .i64 x9, .int .i64 x10, .int .i64 x11, .int .i64 x12, .slice a' L.length c'], rfl, ?_, (((((((((((((((HB5.out.setCell (p := ⟨W.heap.size, 13, none⟩) (by show W.heap.size ≤ W.heap.size; omega) (.slice a' L.length c')).setCell (p := ⟨W.heap.size + 1, 0, none⟩) (by show W.heap.size ≤ W.heap.size + 1; omega) (.int .i64 x0)).setCell (p := ⟨W.heap.size + 1, 1, none⟩) (by show W.heap.size ≤ W.heap.size + 1; omega) (.int .i64 x1)).setCell (p := ⟨W.heap.size + 1, 2, none⟩) (by show W.heap.size ≤ W.heap.size + 1; omega) (.int .i64 x2)).setCell (p := ⟨W.heap.size + 1, 3, none⟩) (by show W.heap.size ≤ W.heap.size + 1; omega) (.string x3)).setCell (p := ⟨W.heap.size + 1, 4, none⟩) (by show W.heap.size ≤ W.heap.size + 1; omega) (.int .i64 x4)).setCell (p := ⟨W.heap.size + 1, 5, none⟩) (by show W.heap.size ≤ W.heap.size + 1; omega) (.int .i64 x5)).setCell (p := ⟨W.heap.size + 1, 6, none⟩) (by show W.heap.size ≤ W.heap.size + 1; omega) (.int .i64 x6)).setCell (p := ⟨W.heap.size + 1, 7, none⟩) (by show W.heap.size ≤ W.heap.size + 1; omega) (.int .i64 x7)).setCell (p := ⟨W.heap.size + 1, 8, none⟩) (by show W.heap.size ≤ W.heap.size + 1; omega) (.int .i64 x8)).setCell (p := ⟨W.heap.size + 1, 9, none⟩) (by show W.heap.size ≤ W.heap.size + 1; omega) (.int .i64 x9)).setCell (p := ⟨W.heap.size + 1, 10, none⟩) (by show W.heap.size ≤ W.heap.size + 1; omega) (.int .i64 x10)).setCell (p := ⟨W.heap.size + 1, 11, none⟩) (by show W.heap.size ≤ W.heap.size + 1; omega) (.int .i64 x11)).setCell (p := ⟨W.heap.size + 1, 12, none⟩) (by show W.heap.size ≤ W.heap.size + 1; omega) (.int .i64 x12)).setCell (p := ⟨W.heap.size + 1, 13, none⟩) (by show W.heap.size ≤ W.heap.size + 1; omega) (.slice a' L.length c'))⟩
  have hoff := ((((((((((((((((Off.refl (fun x => x < W.heap.size + 2) w5).setCell (p := ⟨W.heap.size, 13, none⟩) (by show W.heap.size < W.heap.size + 2; omega) (.slice a' L.length c')).setCell (p := ⟨W.heap.size + 1, 0, none⟩) (by show W.heap.size + 1 < W.heap.size + 2; omega) (.int .i64 x0)).setCell (p := ⟨W.heap.size + 1, 1, none⟩) (by show W.heap.size + 1 < W.heap.size + 2; omega) (.int .i64 x1)).setCell (p := ⟨W.heap.size + 1, 2, none⟩) (by show W.heap.size + 1 < W.heap.size + 2; omega) (.int .i64 x2)).setCell (p := ⟨W.heap.size + 1, 3, none⟩) (by show W.heap.size + 1 < W.heap.size + 2; omega) (.string x3)).setCell (p := ⟨W.heap.size + 1, 4, none⟩) (by show W.heap.size + 1 < W.heap.size + 2; omega) (.int .i64 x4)).setCell (p := ⟨W.heap.size + 1, 5, none⟩) (by show W.heap.size + 1 < W.heap.size + 2; omega) (.int .i64 x5)).setCell (p := ⟨W.heap.size + 1, 6, none⟩) (by show W.heap.size + 1 < W.heap.size + 2; omega) (.int .i64 x6)).setCell (p := ⟨W.heap.size + 1, 7, none⟩) (by show W.heap.size + 1 < W.heap.size + 2; omega) (.int .i64 x7)).setCell (p := ⟨W.heap.size + 1, 8, none⟩) (by show W.heap.size + 1 < W.heap.size + 2; omega) (.int .i64 x8)).setCell (p := ⟨W.heap.size + 1, 9, none⟩) (by show W.heap.size + 1 < W.heap.size + 2; omega) (.int .i64 x9)).setCell (p := ⟨W.heap.size + 1, 10, none⟩) (by show W.heap.size + 1 < W.heap.size + 2; omega) (.int .i64 x10)).setCell (p := ⟨W.heap.size + 1, 11, none⟩) (by show W.heap.size + 1 < W.heap.size + 2; omega) (.int .i64 x11)).setCell (p := ⟨W.heap.size + 1, 12, none⟩) (by show W.heap.size + 1 < W.heap.size + 2; omega) (.int .i64 x12)).setCell (p := ⟨W.heap.size + 1, 13, none⟩) (by show W.heap.size + 1 < W.heap.size + 2; omega) (.slice a' L.length c'))
  have hsz := hoff.size
  have hos := HO.out
  exact mkow_Task (fun k hk => ⟨by have := hk.1; omega, by have := hk.2; omega⟩) (hos.keep I_ok (fun k hk => hoff.block k hk.2 (by have := hk.1; omega))) HX3.out
end Go.Proofs.Ytkghodbbgehcoaa.RepC
end
section
namespace Go.Proofs.Ytkghodbbgehcoaa.RepC
open Go.RowKit RowC ValC SpanC KeptC NameC
set_option linter.unusedVariables false
set_option linter.unusedSimpArgs false
theorem sz_in {L : List D_Task} {k : Nat} {x : D_Task} (hsz : (Sl R_Task).sz L ≤ 1048576) (hx : L[k]? = some x) : (tOwner x).size ≤ 1048576 ∧ (tNodes x).length ≤ 1048576 := by
  have h1 := sz_at (f := R_Task.sz) hx hsz
  rw [sz_task] at h1
  omega
end Go.Proofs.Ytkghodbbgehcoaa.RepC
end
section
namespace Go.Proofs.Ytkghodbbgehcoaa.RepC
open Go.RowKit RowC ValC
set_option linter.unusedVariables false
set_option linter.unusedSimpArgs false
set_option maxRecDepth 100000
theorem below_own {B : Nat} {w w' : World} {v : Value} (h : w.grownBy w' v.ownBlock) (hv : ∀ k, v.ownBlock = some k → B ≤ k) (hB : B ≤ w.heap.size) : Below B w w' :=
  ⟨h.os, h.tape, h.output, h.size, fun k hk => h.block k (Nat.lt_of_lt_of_le hk hB) (fun e => by have := hv k e.symm; omega)⟩
theorem infoOf {t : TypeId} {z : Value} {n b : Nat} (h : (Try.prog.info? t).map (fun i => (i.zero, i.size, i.bytes)) = some (some z, n, b)) : ∃ i, Try.prog.info? t = some i ∧ i.zero = some z ∧ i.size = n ∧ i.bytes = b := by
  cases hx : Try.prog.info? t with
  | none => rw [hx] at h; simp at h
  | some i => rw [hx] at h; simp at h; exact ⟨i, rfl, h.1, h.2.1, h.2.2⟩
def AppS {α : Type} (E : Rp α) (w : World) (base top : Nat) (T : TypeId) (v : Value) (L : List α) (S : Nat → Prop) : Prop :=
  ∃ lo hi xs Sf, base ≤ lo ∧ lo ≤ hi ∧ hi ≤ top ∧ App E w lo hi T v L xs Sf ∧ ∀ k, S k ↔ (v.ownBlock = some k ∨ ∃ i, Sf i k)
section
variable {α : Type} {E : Rp α} {w w' : World} {base top : Nat} {T : TypeId} {v : Value} {L : List α} {S : Nat → Prop}
theorem AppS.none_ (E : Rp α) (w : World) (T : TypeId) : AppS E w w.heap.size w.heap.size T (.slice none 0 0) [] (fun _ => False) :=
  ⟨_, _, _, _, Nat.le_refl _, Nat.le_refl _, Nat.le_refl _, App.none_ E w T (Nat.le_refl _), fun k => ⟨fun h => h.elim, fun h => h.elim (fun h => by cases h) fun ⟨_, h⟩ => h⟩⟩
theorem AppS.bnd (h : AppS E w base top T v L S) {k : Nat} (hk : S k) : base ≤ k ∧ k < top := by
  obtain ⟨lo, hi, xs, Sf, h1, h2, h3, hA, hS⟩ := h
  rcases (hS k).1 hk with h | ⟨i, h⟩
  · have := hA.blk k h; omega
  · have := hA.sub i k h; omega
theorem AppS.isSlice (h : AppS E w base top T v L S) : ∃ a c, v = .slice a L.length c := by
  obtain ⟨lo, hi, xs, Sf, h1, h2, h3, hA, hS⟩ := h
  exact hA.isSlice
theorem AppS.mv (hE : Ok E) (h : AppS E w base top T v L S) (hs : w.heap.size ≤ w'.heap.size) (hb : ∀ k, S k → w'.heap[k]? = w.heap[k]?) : AppS E w' base top T v L S := by
  obtain ⟨lo, hi, xs, Sf, h1, h2, h3, hA, hS⟩ := h
  exact ⟨lo, hi, xs, Sf, h1, h2, h3, hA.mv2 hE hs (fun k hk => hb k ((hS k).2 (.inl hk))) (fun i k hk => hb k ((hS k).2 (.inr ⟨i, hk⟩))), hS⟩
theorem AppS.call (hE : Ok E) (h : AppS E w base top T v L S) (ht : top ≤ w.heap.size) (hb : Below w.heap.size w w') : AppS E w' base top T v L S :=
  h.mv hE hb.size fun k hk => hb.block k (Nat.lt_of_lt_of_le (h.bnd hk).2 ht)
theorem AppS.rise {top' : Nat} (h : AppS E w base top T v L S) (ht : top ≤ top') : AppS E w base top' T v L S := by
  obtain ⟨lo, hi, xs, Sf, h1, h2, h3, hA, hS⟩ := h
  exact ⟨lo, hi, xs, Sf, h1, h2, Nat.le_trans h3 ht, hA, hS⟩
theorem AppS.done (hE : Ok E) (h : AppS E w base top T v L S) : ∃ a c, v = .slice a L.length c ∧ OwSl E w (Rg base top) L a c := by
  obtain ⟨lo, hi, xs, Sf, h1, h2, h3, hA, hS⟩ := h
  obtain ⟨a, c, rfl, hO⟩ := hA.done
  exact ⟨a, c, rfl, hO.more (fun k hk => ⟨Nat.le_trans h1 hk.1, Nat.lt_of_lt_of_le hk.2 h3⟩)⟩
theorem AppS.app {P : Program} (hE : Ok E) (h : AppS E w base top T v L S) {t ty : TypeId} {i : TypeInfo} {z : Value} {bytes : Nat} (ht : P.underlying t = some (.slice T)) (hi' : P.info? T = some i) (hz : i.zero = some z) (hsize : i.size = E.size) (hby : i.bytes = bytes) (hzs : z.cells.size = E.size) (hpos : 0 < E.size)
    {x : α} {us : List Value} {Sx : Nat → Prop} {blk c : Nat} (hrow : ∀ j u, us[j]? = some u → w.cell? ⟨blk, j, none⟩ = some u) (hx : E.ow w Sx x us) (hS : ∀ k, Sx k → top ≤ k ∧ k < w.heap.size) (htop : top ≤ w.heap.size) (hL : L.length + 1 ≤ maxLen) (hLb : (L.length + 1) * bytes ≤ 140737488355328) :
    ∃ v' w' S', (Builtin.append_ #[t, t] ty #[v, .slice (some ⟨blk, 0, none⟩) 1 c]).run P w = .ok v' w' ∧ AppS E w' base w'.heap.size T v' (L ++ [x]) S' ∧ w.grownBy w' v.ownBlock ∧ (∀ k, v.ownBlock = some k → S k) ∧ ∀ k, S' k → S k ∨ top ≤ k := by
  obtain ⟨lo, hi, xs, Sf, h1, h2, h3, hA, hSS⟩ := h
  obtain ⟨v', w', xs', Sf', hrun, hA', hg, hown, hsub⟩ := hA.app2 (ty := ty) (c := c) hE ht hi' hz hsize hby hzs hpos hrow hx (fun k hk => ⟨by have := hS k hk; omega, (hS k hk).2⟩) h2 hL hLb
  refine ⟨v', w', fun k => v'.ownBlock = some k ∨ ∃ i, Sf' i k, hrun, ⟨lo, w'.heap.size, xs', Sf', h1, ?_, Nat.le_refl _, hA', fun k => Iff.rfl⟩, hg, fun k hk => (hSS k).2 (.inl hk), fun k hk => ?_⟩
  · have := hg.size; omega
  · rcases hk with hk | ⟨i, hk⟩
    · rcases hown k hk with h | h
      · exact .inl ((hSS k).2 (.inl h))
      · exact .inr (by omega)
    · rcases hsub i k hk with h | h
      · exact .inl ((hSS k).2 (.inr ⟨i, h⟩))
      · exact .inr (hS k h).1
end
def ARow {α : Type} (E : Rp α) (w : World) (lo : Nat) (T : TypeId) (v : Value) (L : List α) : Prop := ∃ S, AppS E w lo w.heap.size T v L S
section
variable {α : Type} {E : Rp α} {w w' : World} {lo : Nat} {T : TypeId} {v : Value} {L : List α}
theorem ARow.none_ (E : Rp α) (w : World) (T : TypeId) : ARow E w w.heap.size T (.slice none 0 0) [] := ⟨_, AppS.none_ E w T⟩
theorem ARow.made (E : Rp α) (w : World) (T : TypeId) : ARow E (w.alloc (.cells #[] T)) w.heap.size T (.slice (some ⟨w.heap.size, 0, none⟩) 0 0) [] :=
  ⟨_, _, _, _, _, Nat.le_refl _, Nat.le_succ _, by simp, App.made E w T, fun k => Iff.rfl⟩
theorem ARow.call (hE : Ok E) (h : ARow E w lo T v L) (hb : Below w.heap.size w w') : ARow E w' lo T v L := by
  obtain ⟨S, h⟩ := h
  exact ⟨S, (h.call hE (Nat.le_refl _) hb).rise hb.size⟩
theorem ARow.isSlice (h : ARow E w lo T v L) : ∃ a c, v = .slice a L.length c := by obtain ⟨S, h⟩ := h; exact h.isSlice
theorem ARow.base (h : ARow E w lo T v L) : lo ≤ w.heap.size := by
  obtain ⟨S, a, b, xs, Sf, h1, h2, h3, _⟩ := h
  omega
theorem ARow.app {P : Program} (hE : Ok E) (h : ARow E w lo T v L) (hb : Below w.heap.size w w') {t ty : TypeId} {i : TypeInfo} {z : Value} {bytes : Nat} (ht : P.underlying t = some (.slice T)) (hi' : P.info? T = some i) (hz : i.zero = some z) (hsize : i.size = E.size) (hby : i.bytes = bytes) (hzs : z.cells.size = E.size) (hpos : 0 < E.size)
    {x : α} {us : List Value} {blk c : Nat} (hrow : ∀ j u, us[j]? = some u → w'.cell? ⟨blk, j, none⟩ = some u) (hx : E.ow w' (Rg w.heap.size w'.heap.size) x us) (hL : L.length + 1 ≤ maxLen) (hLb : (L.length + 1) * bytes ≤ 140737488355328) :
    ∃ a' c' w2, (Builtin.append_ #[t, t] ty #[v, .slice (some ⟨blk, 0, none⟩) 1 c]).run P w' = .ok (.slice a' (L ++ [x]).length c') w2 ∧ ARow E w2 lo T (.slice a' (L ++ [x]).length c') (L ++ [x]) ∧ Below lo w' w2 := by
  obtain ⟨S, h⟩ := h
  have h' := h.call hE (Nat.le_refl _) hb
  obtain ⟨v', w2, S', hrun, hA, hg, ho, _⟩ := h'.app (ty := ty) (c := c) hE ht hi' hz hsize hby hzs hpos hrow hx (fun k hk => hk) hb.size hL hLb
  have hA2 : ARow E w2 lo T v' (L ++ [x]) := ⟨S', hA⟩
  obtain ⟨a', c', rfl⟩ := hA2.isSlice
  have hlo := ARow.base (show ARow E w lo T v L from ⟨S, h⟩)
  exact ⟨a', c', w2, hrun, hA2, below_own hg (fun k hk => (h.bnd (ho k hk)).1) (Nat.le_trans hlo hb.size)⟩
theorem ARow.news (hE : Ok E) {W : World} (h : ARow E w lo T v L) (hlo : W.heap.size ≤ lo) (hb : Below W.heap.size W w) : NewS E L W (.returned v) w := by
  obtain ⟨S, h⟩ := h
  obtain ⟨a, c, rfl, ho⟩ := h.done hE
  exact ⟨a, c, rfl, ho.more fun k hk => ⟨Nat.le_trans hlo hk.1, hk.2⟩, hb⟩
end
end Go.Proofs.Ytkghodbbgehcoaa.RepC
end
section
namespace Go.Proofs.Ytkghodbbgehcoaa.RepC
open Go.RowKit RowC ValC SpanC KeptC NameC
set_option linter.unusedVariables false
set_option linter.unusedSimpArgs false
def goneT : D_Task → D_Task
  | (lb, id, ow, need, long, prio, un, af, bo, _, _, _) => (lb, id, ow, need, long, prio, un, af, bo, 6, 0, [])
def gonB (out : List D_Task) (x : D_Task) : Bool := (tAfter x != 0) && ((tState x == 1 || tState x == 3) && (stU out (tUnder x, tAfter x) == 5 || stU out (tUnder x, tAfter x) == 6))
def stepO (out : List D_Task) (x : D_Task) : D_Task := if gonB out x = true then goneT x else x
theorem stepO_yes {out : List D_Task} {x : D_Task} (h : gonB out x = true) : stepO out x = goneT x := if_pos h
theorem stepO_no {out : List D_Task} {x : D_Task} (h : gonB out x = false) : stepO out x = x := if_neg (by rw [h]; decide)
theorem stepO_key (out : List D_Task) (x : D_Task) : tKey (stepO out x) = tKey x := by unfold stepO; split <;> rfl
def orpTo (L : List D_Task) : Nat → List D_Task
  | 0 => []
  | k + 1 => orpTo L k ++ (match L[k]? with | some x => [stepO (orpTo L k) x] | none => [])
theorem orpTo_step {L : List D_Task} {k : Nat} {x : D_Task} (hx : L[k]? = some x) : orpTo L (k + 1) = orpTo L k ++ [stepO (orpTo L k) x] := by
  show orpTo L k ++ (match L[k]? with | some x => [stepO (orpTo L k) x] | none => []) = _
  rw [hx]
theorem orpTo_keys (L : List D_Task) : ∀ k, k ≤ L.length → (orpTo L k).map tKey = (L.take k).map tKey
  | 0, _ => by simp [orpTo]
  | k + 1, hk => by
    obtain ⟨x, hx⟩ : ∃ x, L[k]? = some x := ⟨L[k], List.getElem?_eq_getElem (by omega)⟩
    rw [orpTo_step hx, List.take_add_one, hx, Option.toList_some, List.map_append, List.map_append, orpTo_keys L k (by omega)]
    simp only [List.map_cons, List.map_nil, stepO_key]
theorem orpTo_len {L : List D_Task} {k : Nat} (hk : k ≤ L.length) : (orpTo L k).length = k := by
  have h := congrArg List.length (orpTo_keys L k hk)
  rw [List.length_map, List.length_map, List.length_take] at h
  omega
theorem atT_keys {L M : List D_Task} (h : L.map tKey = M.map tKey) (a : D_Label × Int) : atT L a = atT M a := by
  have e : ∀ L : List D_Task, L.findIdx? (fun x => decide (tKey x = a)) = (L.map tKey).findIdx? (fun x => decide (x = a)) := fun L => by
    rw [List.findIdx?_map]; rfl
  unfold atT
  rw [e L, e M, h]
noncomputable def orphans (L : List D_Task) : List D_Task := if tasksB L = true then orpTo L L.length else []
theorem orphans_yes {L : List D_Task} (h : tasksB L = true) : orphans L = orpTo L L.length := if_pos h
theorem orphans_no {L : List D_Task} (h : tasksB L = false) : orphans L = [] := if_neg (by rw [h]; decide)
theorem infoTask : ∃ i, Try.prog.info? 43 = some i ∧ i.zero = some (.agg #[.int .i64 0, .int .i64 0, .int .i64 0, .string ⟨#[]⟩, .int .i64 0, .int .i64 0, .int .i64 0, .int .i64 0, .int .i64 0, .int .i64 0, .int .i64 0, .int .i64 0, .int .i64 0, .slice none 0 0]) ∧ i.size = 14 ∧ i.bytes = 136 := infoOf (by kernel_rfl)
theorem app_task {w w' : World} {lo : Nat} {v : Value} {L : List D_Task} (h : ARow R_Task w lo 43 v L) (hb : Below w.heap.size w w') {x : D_Task} {us : List Value} {blk : Nat} (hc : Blk w' blk 43 us.toArray) (hx : R_Task.ow w' (Rg w.heap.size w'.heap.size) x us) (hL : L.length ≤ 4096) :
    ∃ a' c' w2, (Builtin.append_ #[50, 50] 50 #[v, .slice (some ⟨blk, 0, none⟩) 1 1]).run Try.prog w' = .ok (.slice a' (L ++ [x]).length c') w2 ∧ ARow R_Task w2 lo 43 (.slice a' (L ++ [x]).length c') (L ++ [x]) ∧ Below lo w' w2 := by
  obtain ⟨i, hi', hz, hs, hby⟩ := infoTask
  exact h.app R_Task_ok hb Try.underlying50 hi' hz hs hby rfl (by decide) (us := us) (fun j u hj => hc.at_ j (by simpa using hj)) hx (by unfold maxLen; omega) (by omega)
theorem ARow.rd {α : Type} {E : Rp α} (hE : Ok E) {w : World} {lo : Nat} {T : TypeId} {a : Option Addr} {n c : Nat} {L : List α} (h : ARow E w lo T (.slice a n c) L) : n = L.length ∧ RdSl E w w.heap.size L a c := by
  obtain ⟨S, h⟩ := h
  obtain ⟨a', c', e, ho⟩ := h.done hE
  cases e
  exact ⟨rfl, ho.rd hE fun k hk => hk.2⟩
end Go.Proofs.Ytkghodbbgehcoaa.RepC
end
section
namespace Go.Proofs.Ytkghodbbgehcoaa.RepC
open Go.RowKit RowC ValC
set_option linter.unusedVariables false
structure Half {α : Type} (E : Rp α) (B : Nat) (w : World) (lo hi : Nat) (T : TypeId) (v : Value) (L : List α) (k : Nat) (xs : List Value) (Sf : Nat → Nat → Prop) : Prop where
  own : w.ownsRow lo T E.size v L.length xs
  el : ∀ i x, i < k → L[i]? = some x → ∃ us, (∀ j c, us[j]? = some c → xs[i * E.size + j]? = some c) ∧ E.ow w (Sf i) x us
  rest : ∀ i x, k ≤ i → L[i]? = some x → ∃ us, (∀ j c, us[j]? = some c → xs[i * E.size + j]? = some c) ∧ E.rd w B x us
  sub : ∀ i q, Sf i q → lo ≤ q ∧ q < hi ∧ v.ownBlock ≠ some q ∧ i < k
  dis : ∀ i j q, i < j → Sf i q → ¬ Sf j q
  blk : ∀ q, v.ownBlock = some q → lo ≤ q ∧ q < hi
  le : hi ≤ w.heap.size
  base : B ≤ lo
  top : B ≤ w.heap.size
section
variable {α : Type} {E : Rp α} {B : Nat} {w w' w1 : World} {lo hi g n c : Nat} {T : TypeId} {v : Value} {L : List α} {k : Nat} {xs : List Value} {Sf : Nat → Nat → Prop}
theorem Half.done (h : Half E B w lo hi T v L L.length xs Sf) : App E w lo hi T v L xs Sf :=
  ⟨h.own, fun i x hx => h.el i x (List.getElem?_eq_some_iff.1 hx).1 hx, fun i q hq => ⟨(h.sub i q hq).1, (h.sub i q hq).2.1, (h.sub i q hq).2.2.1⟩, h.dis, h.blk, h.le⟩
theorem Half.mv (hE : Ok E) (h : Half E B w lo hi T v L k xs Sf) (hs : w.heap.size ≤ w'.heap.size) (hb : ∀ q, (v.ownBlock = some q ∨ ∃ i, Sf i q) → w'.heap[q]? = w.heap[q]?) (hB : Below B w w') : Half E B w' lo hi T v L k xs Sf := by
  refine ⟨?_, fun i x hi hx => ?_, fun i x hi hx => ?_, h.sub, h.dis, h.blk, Nat.le_trans h.le hs, h.base, Nat.le_trans h.top hs⟩
  · obtain ⟨h1, h2⟩ := h.own
    refine ⟨h1, ?_⟩
    rcases h2 with h2 | ⟨g, cap, cur, rfl, hlo, hg, h3⟩
    · exact .inl h2
    · exact .inr ⟨g, cap, cur, rfl, hlo, (hb g (.inl rfl)).trans hg, h3⟩
  · obtain ⟨us, h1, h2⟩ := h.el i x hi hx
    exact ⟨us, h1, hE.ow_keep h2 fun q hq => hb q (.inr ⟨i, hq⟩)⟩
  · obtain ⟨us, h1, h2⟩ := h.rest i x hi hx
    exact ⟨us, h1, hE.rd_below h2 hB⟩
theorem Half.call (hE : Ok E) (h : Half E B w lo hi T v L k xs Sf) (hb : Below w.heap.size w w') : Half E B w' lo hi T v L k xs Sf := by
  have hle := h.le
  refine h.mv hE hb.size (fun q hq => hb.block q ?_) (hb.mono h.top)
  rcases hq with hq | ⟨i, hq⟩
  · have := h.blk q hq; omega
  · have := h.sub i q hq; omega
theorem Half.at_ (h : Half E B w lo hi T (.slice (some ⟨g, 0, none⟩) n c) L k xs Sf) {i : Nat} {x : α} (hi : k ≤ i) (hx : L[i]? = some x) : ∃ us, CellsAt w g (i * E.size) us ∧ E.rd w B x us ∧ (∀ j c, us[j]? = some c → xs[i * E.size + j]? = some c) := by
  obtain ⟨us, h1, h2⟩ := h.rest i x hi hx
  refine ⟨us, fun j d hj => ?_, h2, h1⟩
  have h4 := h1 j d hj
  rcases h.own.2 with ⟨e, _⟩ | ⟨g', cap, cur, e, hlo, hg, hn, hm, hc, ht⟩
  · cases e
  · cases e
    rw [← ht] at h4
    have h5 : cur.toList[i * E.size + j]? = some d := by
      rw [List.getElem?_take] at h4
      split at h4
      · exact h4
      · cases h4
    exact (cell_of_row w _ _ cur _ _ hg).trans (by simpa using h5)
theorem Half.soft (h : Half E B w lo hi T (.slice (some ⟨g, 0, none⟩) n c) L k xs Sf) (j : Nat) : w.frozen? ⟨g, j, none⟩ = false := by
  rcases h.own.2 with ⟨e, _⟩ | ⟨g', cap, cur, e, hlo, hg, hn, hm, hc, ht⟩
  · cases e
  · cases e
    simp [World.frozen?, hg]
theorem Half.step (hE : Ok E) (h : Half E B w lo hi T (.slice (some ⟨g, 0, none⟩) n c) L k xs Sf) {x : α} (hx : L[k]? = some x) {us : List Value} (hus : ∀ j c, us[j]? = some c → xs[k * E.size + j]? = some c) {p : Nat} (hp : p < E.size) (hul : us.length = E.size) {u : Value}
    (hb : Below w.heap.size w w1) (ho : E.ow w1 (Rg w.heap.size w1.heap.size) x (us.set p u)) :
    ∃ xs' Sf', Half E B (w1.setCell ⟨g, k * E.size + p, none⟩ u) lo w1.heap.size T (.slice (some ⟨g, 0, none⟩) n c) L (k + 1) xs' Sf' ∧ (∀ i q, Sf' i q → Sf i q ∨ Rg w.heap.size w1.heap.size q) := by
  have hle := h.le
  have hbs := hb.size
  have hgb := h.blk g rfl
  have hgl : g < w.heap.size := by omega
  have hkL := (List.getElem?_eq_some_iff.1 hx).1
  have hbB := h.base
  have hsz : (w1.setCell ⟨g, k * E.size + p, none⟩ u).heap.size = w1.heap.size := by simp [World.setCell]
  have hmul : (k + 1) * E.size ≤ L.length * E.size := Nat.mul_le_mul_right _ (by omega)
  rw [Nat.add_mul, Nat.one_mul] at hmul
  have far : ∀ q, q ≠ g → (w1.setCell ⟨g, k * E.size + p, none⟩ u).heap[q]? = w1.heap[q]? := fun q hq => Below.heap_setCell _ _ _ _ hq
  have hB2 : Below B w (w1.setCell ⟨g, k * E.size + p, none⟩ u) := (hb.mono h.top).setCell (p := ⟨g, k * E.size + p, none⟩) (by show B ≤ g; omega) u
  have idx : ∀ i j, i ≠ k → j < E.size → i * E.size + j ≠ k * E.size + p := fun i j hik hj e => by
    have := mul_lt_el (i := k) (j := i) hj (Ne.symm hik)
    rw [Nat.add_mul, Nat.one_mul] at this
    omega
  refine ⟨xs.set (k * E.size + p) u, fun i q => if i = k then Rg w.heap.size w1.heap.size q else Sf i q, ⟨⟨?_, ?_⟩, fun i y hi hy => ?_, fun i y hi hy => ?_, fun i q hq => ?_, fun i j q hij hi => ?_, fun q hq => ?_, by rw [hsz]; exact Nat.le_refl _, h.base, by rw [hsz]; exact Nat.le_trans h.top hbs⟩, fun i q hq => by
    by_cases e : i = k
    · simp only [e, if_true] at hq; exact .inr hq
    · simp only [e, if_false] at hq; exact .inl hq⟩
  · rw [List.length_set]; exact h.own.1
  · rcases h.own.2 with ⟨e, _⟩ | ⟨g', cap, cur, e, hlo, hg, hn, hm, hc, ht⟩
    · cases e
    · cases e
      refine .inr ⟨g, _, cur.setIfInBounds (k * E.size + p) u, rfl, hlo, ?_, hn, hm, by rw [Array.size_setIfInBounds]; exact hc, ?_⟩
      · have h1 : w1.heap[g]? = some (.cells cur T (0, 0)) := (hb.block g hgl).trans hg
        simp [World.setCell, Array.getElem?_modify, h1]
      · rw [Array.toList_setIfInBounds, List.take_set, ht]
  · by_cases e : i = k
    · subst e
      rw [hx] at hy
      obtain rfl := Option.some.inj hy
      refine ⟨us.set p u, fun j d hj => ?_, ?_⟩
      · by_cases ej : j = p
        · subst ej
          rw [List.getElem?_set_self (by omega)] at hj
          cases hj
          rw [List.getElem?_set_self (by rw [h.own.1]; omega)]
        · rw [List.getElem?_set_ne (Ne.symm ej)] at hj
          rw [List.getElem?_set_ne (by omega)]
          exact hus j d hj
      · simp only [if_true]
        exact hE.ow_keep ho fun q hq => far q (by have := hq.1; omega)
    · obtain ⟨vs, h1, h2⟩ := h.el i y (by omega) hy
      refine ⟨vs, fun j d hj => ?_, ?_⟩
      · have hj2 : j < E.size := by rw [← hE.ow_len h2]; exact (List.getElem?_eq_some_iff.1 hj).1
        rw [List.getElem?_set_ne (fun e2 => idx i j e hj2 e2.symm)]
        exact h1 j d hj
      · simp only [e, if_false]
        exact hE.ow_keep h2 fun q hq => (far q (fun e2 => (h.sub i q hq).2.2.1 (by rw [e2]; rfl))).trans (hb.block q (by have := (h.sub i q hq).2.1; omega))
  · obtain ⟨vs, h1, h2⟩ := h.rest i y (by omega) hy
    refine ⟨vs, fun j d hj => ?_, hE.rd_below h2 hB2⟩
    have hj2 : j < E.size := by rw [← hE.rd_len h2]; exact (List.getElem?_eq_some_iff.1 hj).1
    rw [List.getElem?_set_ne (fun e2 => idx i j (by omega) hj2 e2.symm)]
    exact h1 j d hj
  · by_cases e : i = k
    · simp only [e, if_true] at hq
      have := hq.1
      have := hq.2
      refine ⟨by omega, by omega, fun e2 => ?_, by omega⟩
      have e3 : g = q := Option.some.inj e2
      omega
    · simp only [e, if_false] at hq
      have := h.sub i q hq
      exact ⟨this.1, by omega, this.2.2.1, by omega⟩
  · by_cases e1 : i = k
    · subst e1
      simp only [if_true] at hi
      simp only [show j ≠ i by omega, if_false]
      intro hj
      have h1 := (h.sub j q hj).2.1
      have h2 := hi.1
      omega
    · simp only [e1, if_false] at hi
      by_cases e2 : j = k
      · simp only [e2, if_true]
        intro hj
        have h1 := (h.sub i q hi).2.1
        have h2 := hj.1
        omega
      · simp only [e2, if_false]
        exact h.dis i j q hij hi
  · have := h.blk q hq
    omega
end
theorem row_cells {α : Type} {E : Rp α} (hE : Ok E) {w : World} {B g o : Nat} {L : List α} (hel : ∀ i x, L[i]? = some x → ∃ us, CellsAt w g (o + i * E.size) us ∧ E.rd w B x us) :
    ∃ xs : List Value, xs.length = L.length * E.size ∧ CellsAt w g o xs ∧ (∀ u ∈ xs, u.oneCell' = true) ∧ ∀ i x, L[i]? = some x → ∃ us, (∀ j c, us[j]? = some c → xs[i * E.size + j]? = some c) ∧ E.rd w B x us := by
  have key : ∀ n, n ≤ L.length → ∃ xs : List Value, xs.length = n * E.size ∧ CellsAt w g o xs ∧ (∀ u ∈ xs, u.oneCell' = true) ∧ ∀ i x, i < n → L[i]? = some x → ∃ us, (∀ j c, us[j]? = some c → xs[i * E.size + j]? = some c) ∧ E.rd w B x us := by
    intro n
    induction n with
    | zero => exact fun _ => ⟨[], by simp, CellsAt.nil, fun u hu => by simp at hu, fun i x h => absurd h (Nat.not_lt_zero _)⟩
    | succ n ih =>
      intro hn
      obtain ⟨xs, h1, h2, h3, h4⟩ := ih (by omega)
      obtain ⟨x, hx⟩ := el_some (L := L) (k := n) (by omega)
      obtain ⟨us, hu, hr⟩ := hel n x hx
      have hul := hE.rd_len hr
      refine ⟨xs ++ us, by rw [List.length_append, h1, hul, Nat.add_mul, Nat.one_mul], CellsAt.app.2 ⟨h2, by rw [h1]; exact hu⟩, fun u hu2 => ?_, fun i y hi hy => ?_⟩
      · rcases List.mem_append.1 hu2 with h | h
        · exact h3 u h
        · exact hE.one hr u h
      · by_cases e : i = n
        · subst e
          rw [hx] at hy
          obtain rfl := Option.some.inj hy
          refine ⟨us, fun j c hj => ?_, hr⟩
          rw [List.getElem?_append_right (by omega), h1, Nat.add_sub_cancel_left]
          exact hj
        · obtain ⟨vs, h5, h6⟩ := h4 i y (by omega) hy
          refine ⟨vs, fun j c hj => ?_, h6⟩
          have h7 := h5 j c hj
          rw [List.getElem?_append_left (List.getElem?_eq_some_iff.1 h7).1]
          exact h7
  obtain ⟨xs, h1, h2, h3, h4⟩ := key L.length (Nat.le_refl _)
  exact ⟨xs, h1, h2, h3, fun i x hx => h4 i x (List.getElem?_eq_some_iff.1 hx).1 hx⟩
theorem app_half {α : Type} {E : Rp α} (hE : Ok E) {P : Program} {L : List α} {a : Option Addr} {cap : Nat} {w : World} {t ty T : TypeId} {i : TypeInfo} {z : Value} {bytes : Nat} (ht : P.underlying t = some (.slice T)) (hi : P.info? T = some i) (hz : i.zero = some z) (hsize : i.size = E.size) (hby : i.bytes = bytes)
    (hzs : z.cells.size = E.size) (hpos : 0 < E.size) (hn : L.length ≤ maxLen) (hnb : L.length * bytes ≤ 140737488355328) (h : RdSl E w w.heap.size L a cap) :
    ∃ a' c' w' xs, (Builtin.append_ #[t, t] ty #[.slice (some ⟨w.heap.size, 0, none⟩) 0 0, .slice a L.length cap]).run P (w.alloc (.cells #[] T)) = .ok (.slice a' L.length c') w' ∧ Half E w.heap.size w' w.heap.size w'.heap.size T (.slice a' L.length c') L 0 xs (fun _ _ => False) ∧ Below w.heap.size w w' := by
  have hbel : Below w.heap.size w (w.alloc (.cells #[] T)) := (Below.refl _ _).alloc (Nat.le_refl _) _
  by_cases h0 : L.length = 0
  · have hL : L = [] := List.eq_nil_of_length_eq_zero h0
    subst hL
    refine ⟨_, _, _, [], app_nil ht hi _ a 0 cap, ⟨(App.made E w T).own, fun i x hi => absurd hi (Nat.not_lt_zero _), fun i x _ hx => by simp at hx, fun i q hq => hq.elim, fun i j q _ hq => hq.elim, fun q hq => ?_, Nat.le_refl _, Nat.le_refl _, hbel.size⟩, hbel⟩
    cases hq
    exact ⟨Nat.le_refl _, by simp⟩
  · obtain ⟨g, o, rfl, hg, hel⟩ := h.2.2 (by omega)
    obtain ⟨xs, h1, h2, h3, h4⟩ := row_cells hE hel
    obtain ⟨v', w', hrun, hown, hgr, hnone, hat⟩ := run_append_own_at (P := P) (w.alloc (.cells #[] T)) w.heap.size t ty T i z E.size bytes ht hi hz hsize hby hzs hpos _ 0 [] (App.made E w T).own ⟨g, o, none⟩ L.length cap xs h1
      (fun j u hj => by
        have hadd : (⟨g, o, none⟩ : Addr).add j = ⟨g, o + j, none⟩ := by unfold Addr.add; split <;> simp_all
        rw [hadd]
        exact (hbel.cell (p := ⟨g, o + j, none⟩) hg).trans (h2 j u hj)) h3 (by omega) (by simpa using hnb) (by simp)
    rw [Nat.zero_add, List.nil_append] at hown
    have hb2 : Below w.heap.size w w' := hbel.trans (by
      refine ⟨hgr.os, hgr.tape, hgr.output, hgr.size, fun k hk => hgr.block k (by simp; omega) (fun e => by cases e; exact Nat.lt_irrefl _ hk)⟩)
    rcases hown.2 with ⟨hn0, hL0⟩ | ⟨g', cap', cur, rfl, hlo, hgg, hnc, hm, hc, htk⟩
    · omega
    · have hgl : g' < w'.heap.size := (Array.getElem?_eq_some_iff.1 hgg).1
      refine ⟨_, cap', w', xs, hrun, ⟨hown, fun i x hi => absurd hi (Nat.not_lt_zero _), fun i x _ hx => ?_, fun i q hq => hq.elim, fun i j q _ hq => hq.elim, fun q hq => ?_, Nat.le_refl _, Nat.le_refl _, hb2.size⟩, hb2⟩
      · obtain ⟨us, h5, h6⟩ := h4 i x hx
        exact ⟨us, h5, hE.rd_below h6 hb2⟩
      · cases hq
        exact ⟨hlo, hgl⟩
end Go.Proofs.Ytkghodbbgehcoaa.RepC
end
section
namespace Go.Proofs.Ytkghodbbgehcoaa.RepC
open Go.RowKit RowC ValC SpanC KeptC NameC
set_option linter.unusedVariables false
set_option linter.unusedSimpArgs false
def HalfR {α : Type} (E : Rp α) (T : TypeId) (L : List α) (w : World) (e : Ending) (w' : World) : Prop := ∃ a cap xs, e = .returned (.slice a L.length cap) ∧ Half E w.heap.size w' w.heap.size w'.heap.size T (.slice a L.length cap) L 0 xs (fun _ _ => False) ∧ Below w.heap.size w w'
theorem halfR_elim {α : Type} {E : Rp α} {T : TypeId} {L : List α} {w : World} {e : Ending} {w' : World} (h : HalfR E T L w e w') : ∃ a cap xs, e = .returned (.slice a L.length cap) ∧ Half E w.heap.size w' w.heap.size w'.heap.size T (.slice a L.length cap) L 0 xs (fun _ _ => False) ∧ Below w.heap.size w w' := h
theorem half_nil {α : Type} (E : Rp α) (T : TypeId) (w : World) : Half E w.heap.size w w.heap.size w.heap.size T (.slice none 0 0) ([] : List α) 0 [] (fun _ _ => False) :=
  ⟨⟨by simp, .inl ⟨rfl, rfl⟩⟩, fun i x hi => absurd hi (Nat.not_lt_zero _), fun i x _ hx => by simp at hx, fun i q hq => hq.elim, fun i j q _ hq => hq.elim, fun q hq => (by cases hq), Nat.le_refl _, Nat.le_refl _, Nat.le_refl _⟩
set_option maxHeartbeats 1600000 in
theorem clone_task {L : List D_Task} {a : Option Addr} {cap : Nat} {W : World} (hn : L.length ≤ 1048576) (h : RdSl R_Task W W.heap.size L a cap) :
    Calls Try.prog 124 #[.slice a L.length cap] W (HalfR R_Task 43 L W) := by
  have qT : ∀ (w : World) (a : Option Addr) (n c n' c' : Nat), (binOp .eql 50 (.slice a n c) (.slice none n' c')).run Try.prog w = .ok (.bool a.isNone) w := fun w a n c n' c' => Lib.run_eql_slice_nil w _ _ a n c n' c' Try.underlying50
  cases a with
  | none =>
    have h0 : L.length = 0 := by
      by_cases hp : 0 < L.length
      · obtain ⟨g, o, he, _⟩ := h.2.2 hp
        cases he
      · omega
    have hL : L = [] := List.eq_nil_of_length_eq_zero h0
    subst hL
    go_enter Try.func124, Try.ntmps124
    go_wp2
    go_ret
    exact ⟨none, 0, _, rfl, half_nil R_Task _ _, Below.refl _ _⟩
  | some x =>
    obtain ⟨iL, hiL, hzL1, hsL, hbL⟩ := infoTask
    obtain ⟨a', c', w5, xs, hr, hos, hb⟩ := app_half (P := Try.prog) (ty := 50) R_Task_ok Try.underlying50 hiL hzL1 hsL hbL rfl (by decide) (by unfold maxLen; omega) (by omega) h
    clear hiL hzL1 hsL hbL
    have HR := Lib.hid hr
    have HO := Lib.hid hos
    have HB := Lib.hid hb
    clear hr hos hb h
    go_enter Try.func124, Try.ntmps124
    go_wp2_with (at_builtin; refine wpList_app rfl (.tmp 5) (.tmp 6) 50 rfl rfl rfl HR.out ?_)
    go_ret
    exact ⟨a', c', xs, rfl, HO.out, HB.out⟩
set_option maxRecDepth 100000 in
set_option maxHeartbeats 3200000 in
theorem copytasks_w {L : List D_Task} {a : Option Addr} {cap : Nat} {W : World} (hsz : (Sl R_Task).sz L ≤ 1048576) (h : RdSl R_Task W W.heap.size L a cap) :
    Calls Try.prog 95 #[.slice a L.length cap] W (NewS R_Task L W) := by
  have hn : L.length ≤ 1048576 := Nat.le_trans (Nat.le_add_right _ _) hsz
  have HSZ := Lib.hid hsz
  have HCL := Lib.hid (clone_task hn h)
  clear h hsz
  go_enter Try.func95, Try.ntmps95
  go_wp2_with fail
  refine HCL.out.mono ?_
  intro e w1 h
  obtain ⟨ja, jc, xs0, rfl, hh, hb⟩ := halfR_elim h
  have HH1 := Lib.hid hh
  have HB1 := Lib.hid hb
  clear h hh hb HCL
  go_wp2
  go_loopw [10] (fun i wr => ∃ k : Nat, k ≤ L.length ∧ i = .int .i64 k ∧ Hid (∃ hi xs Sf, Half R_Task W.heap.size wr W.heap.size hi 43 (.slice ja L.length jc) L k xs Sf) ∧ Below W.heap.size W wr) (fun i _ => L.length - (intOf i).toNat)
  case atStart => exact ⟨0, Nat.zero_le _, rfl, Lib.hid ⟨_, _, _, HH1.out⟩, HB1.out⟩
  case round =>
    obtain ⟨k, hk, rfl, HH, hB⟩ := hrel
    obtain ⟨hi, xs, Sf, hh⟩ := HH.out
    have HHx := Lib.hid hh
    have HB := Lib.hid hB
    have hsz := hB.size
    by_cases hlt : k < L.length
    · skip
      obtain ⟨⟨⟨x0, x1⟩, x2, x3, x4, x5, x6, ⟨x7, x8⟩, x9, x10, x11, x12, M⟩, hx⟩ := el_some hlt
      have HX := Lib.hid hx
      have HSI := Lib.hid (sz_in HSZ.out hx)
      obtain ⟨g, rfl⟩ : ∃ g, ja = some ⟨g, 0, none⟩ := by
        obtain ⟨h0, h1⟩ := hh.own
        rcases h1 with ⟨e, h1⟩ | ⟨g, c', cur, e, _⟩
        · omega
        · cases e; exact ⟨g, rfl⟩
      obtain ⟨us, hu, hr, hus⟩ := HHx.out.at_ (Nat.le_refl _) hx
      have hgb := HHx.out.blk g rfl
      have hgl : g < wr.heap.size := Nat.lt_of_lt_of_le hgb.2 HHx.out.le
      obtain ⟨ba, bc, rfl, k_M, b_x3⟩ := rd_Task hr
      have e0 : wr.cell? ⟨g, k * 14, none⟩ = some (.int .i64 x0) := by simpa [size_TaskS, Nat.add_assoc] using hu 0 _ rfl
      have e1 : wr.cell? ⟨g, k * 14 + 1, none⟩ = some (.int .i64 x1) := by simpa [size_TaskS, Nat.add_assoc] using hu 1 _ rfl
      have e2 : wr.cell? ⟨g, k * 14 + 2, none⟩ = some (.int .i64 x2) := by simpa [size_TaskS, Nat.add_assoc] using hu 2 _ rfl
      have e3 : wr.cell? ⟨g, k * 14 + 3, none⟩ = some (.string x3) := by simpa [size_TaskS, Nat.add_assoc] using hu 3 _ rfl
      have e4 : wr.cell? ⟨g, k * 14 + 4, none⟩ = some (.int .i64 x4) := by simpa [size_TaskS, Nat.add_assoc] using hu 4 _ rfl
      have e5 : wr.cell? ⟨g, k * 14 + 5, none⟩ = some (.int .i64 x5) := by simpa [size_TaskS, Nat.add_assoc] using hu 5 _ rfl
      have e6 : wr.cell? ⟨g, k * 14 + 6, none⟩ = some (.int .i64 x6) := by simpa [size_TaskS, Nat.add_assoc] using hu 6 _ rfl
      have e7 : wr.cell? ⟨g, k * 14 + 7, none⟩ = some (.int .i64 x7) := by simpa [size_TaskS, Nat.add_assoc] using hu 7 _ rfl
      have e8 : wr.cell? ⟨g, k * 14 + 8, none⟩ = some (.int .i64 x8) := by simpa [size_TaskS, Nat.add_assoc] using hu 8 _ rfl
      have e9 : wr.cell? ⟨g, k * 14 + 9, none⟩ = some (.int .i64 x9) := by simpa [size_TaskS, Nat.add_assoc] using hu 9 _ rfl
      have e10 : wr.cell? ⟨g, k * 14 + 10, none⟩ = some (.int .i64 x10) := by simpa [size_TaskS, Nat.add_assoc] using hu 10 _ rfl
      have e11 : wr.cell? ⟨g, k * 14 + 11, none⟩ = some (.int .i64 x11) := by simpa [size_TaskS, Nat.add_assoc] using hu 11 _ rfl
      have e12 : wr.cell? ⟨g, k * 14 + 12, none⟩ = some (.int .i64 x12) := by simpa [size_TaskS, Nat.add_assoc] using hu 12 _ rfl
      have e13 : wr.cell? ⟨g, k * 14 + 13, none⟩ = some (.slice ba M.length bc) := by simpa [size_TaskS, Nat.add_assoc] using hu 13 _ rfl
      have HUS := Lib.hid hus
      have hi0 : (0 : Int) ≤ (k : Int) := Int.natCast_nonneg _
      have hi1 : (k : Int) < (L.length : Int) := by omega
      have HX3 := Lib.hid b_x3
      have HL3 := HSI.out.1
      have HLM := HSI.out.2
      obtain ⟨w2, hw2⟩ : ∃ w, w = wr.alloc (.cells #[.int .i64 x0, .int .i64 x1, .int .i64 x2, .string x3, .int .i64 x4, .int .i64 x5, .int .i64 x6, .int .i64 x7, .int .i64 x8, .int .i64 x9, .int .i64 x10, .int .i64 x11, .int .i64 x12, .slice ba M.length bc] 43) := ⟨_, rfl⟩
      have hb2 : Below wr.heap.size wr w2 := by rw [hw2]; exact (Below.refl _ _).alloc (Nat.le_refl _) _
      have HP2 := Lib.hid (show Blk w2 wr.heap.size 43 #[.int .i64 x0, .int .i64 x1, .int .i64 x2, .string x3, .int .i64 x4, .int .i64 x5, .int .i64 x6, .int .i64 x7, .int .i64 x8, .int .i64 x9, .int .i64 x10, .int .i64 x11, .int .i64 x12, .slice ba M.length bc] from by rw [hw2]; exact Blk.new _ _ _)
      have HB2 := Lib.hid hb2
      have HK2 := Lib.hid ((k_M.below I_ok (hb2.mono hsz)).more I_ok (Nat.le_trans hsz hb2.size))
      clear hB hx hu hr hh hb2 k_M b_x3 hus
      go_upto_region 5 with fail
      rw [← hw2]
      clear hw2
      have q0 := HP2.out.at_ 0 rfl
      have q1 := HP2.out.at_ 1 rfl
      have q2 := HP2.out.at_ 2 rfl
      have q3 := HP2.out.at_ 3 rfl
      have q4 := HP2.out.at_ 4 rfl
      have q5 := HP2.out.at_ 5 rfl
      have q6 := HP2.out.at_ 6 rfl
      have q7 := HP2.out.at_ 7 rfl
      have q8 := HP2.out.at_ 8 rfl
      have q9 := HP2.out.at_ 9 rfl
      have q10 := HP2.out.at_ 10 rfl
      have q11 := HP2.out.at_ 11 rfl
      have q12 := HP2.out.at_ 12 rfl
      have q13 := HP2.out.at_ 13 rfl
      go_wp2_with fail
      refine (copyT_impl (by simpa using HL3) (by simpa using HLM) HK2.out).mono ?_
      intro e w5 h
      obtain ⟨us5, rfl, hu5, hb5⟩ := newV_elim h
      obtain ⟨a5, c5, T5, rfl, hT, ho, _⟩ := ow_Task hu5
      have hbw : Below wr.heap.size wr w5 := HB2.out.trans (hb5.mono HB2.out.size)
      obtain ⟨xs', Sf', hH, hsf⟩ := HHx.out.step R_Task_ok HX.out HUS.out (p := 13) (by decide) rfl (u := .slice a5 M.length c5) hbw (mkow_Task (T0 := Rg w2.heap.size w5.heap.size) (fun q hq => ⟨Nat.le_trans HB2.out.size hq.1, hq.2⟩) (ho.more hT) HX3.out)
      have HH5 := Lib.hid hH
      have HBN := Lib.hid (show Below W.heap.size W (w5.setCell ⟨g, k * 14 + 13, none⟩ (.slice a5 M.length c5)) from (HB.out.trans (hbw.mono hsz)).setCell (p := ⟨g, k * 14 + 13, none⟩) hgb.1 _)
      have e0' : w5.cell? ⟨g, k * 14, none⟩ = some (.int .i64 x0) := (hbw.cell (p := ⟨g, k * 14, none⟩) hgl).trans e0
      have f0' := (hbw.frozen (p := ⟨g, k * 14, none⟩) hgl).trans (HHx.out.soft (k * 14))
      have i0 := setCell_id e0'
      have e1' : w5.cell? ⟨g, k * 14 + 1, none⟩ = some (.int .i64 x1) := (hbw.cell (p := ⟨g, k * 14 + 1, none⟩) hgl).trans e1
      have f1' := (hbw.frozen (p := ⟨g, k * 14 + 1, none⟩) hgl).trans (HHx.out.soft (k * 14 + 1))
      have i1 := setCell_id e1'
      have e2' : w5.cell? ⟨g, k * 14 + 2, none⟩ = some (.int .i64 x2) := (hbw.cell (p := ⟨g, k * 14 + 2, none⟩) hgl).trans e2
      have f2' := (hbw.frozen (p := ⟨g, k * 14 + 2, none⟩) hgl).trans (HHx.out.soft (k * 14 + 2))
      have i2 := setCell_id e2'
      have e3' : w5.cell? ⟨g, k * 14 + 3, none⟩ = some (.string x3) := (hbw.cell (p := ⟨g, k * 14 + 3, none⟩) hgl).trans e3
      have f3' := (hbw.frozen (p := ⟨g, k * 14 + 3, none⟩) hgl).trans (HHx.out.soft (k * 14 + 3))
      have i3 := setCell_id e3'
      have e4' : w5.cell? ⟨g, k * 14 + 4, none⟩ = some (.int .i64 x4) := (hbw.cell (p := ⟨g, k * 14 + 4, none⟩) hgl).trans e4
      have f4' := (hbw.frozen (p := ⟨g, k * 14 + 4, none⟩) hgl).trans (HHx.out.soft (k * 14 + 4))
      have i4 := setCell_id e4'
      have e5' : w5.cell? ⟨g, k * 14 + 5, none⟩ = some (.int .i64 x5) := (hbw.cell (p := ⟨g, k * 14 + 5, none⟩) hgl).trans e5
      have f5' := (hbw.frozen (p := ⟨g, k * 14 + 5, none⟩) hgl).trans (HHx.out.soft (k * 14 + 5))
      have i5 := setCell_id e5'
      have e6' : w5.cell? ⟨g, k * 14 + 6, none⟩ = some (.int .i64 x6) := (hbw.cell (p := ⟨g, k * 14 + 6, none⟩) hgl).trans e6
      have f6' := (hbw.frozen (p := ⟨g, k * 14 + 6, none⟩) hgl).trans (HHx.out.soft (k * 14 + 6))
      have i6 := setCell_id e6'
      have e7' : w5.cell? ⟨g, k * 14 + 7, none⟩ = some (.int .i64 x7) := (hbw.cell (p := ⟨g, k * 14 + 7, none⟩) hgl).trans e7
      have f7' := (hbw.frozen (p := ⟨g, k * 14 + 7, none⟩) hgl).trans (HHx.out.soft (k * 14 + 7))
      have i7 := setCell_id e7'
      have e8' : w5.cell? ⟨g, k * 14 + 8, none⟩ = some (.int .i64 x8) := (hbw.cell (p := ⟨g, k * 14 + 8, none⟩) hgl).trans e8
      have f8' := (hbw.frozen (p := ⟨g, k * 14 + 8, none⟩) hgl).trans (HHx.out.soft (k * 14 + 8))
      have i8 := setCell_id e8'
      have e9' : w5.cell? ⟨g, k * 14 + 9, none⟩ = some (.int .i64 x9) := (hbw.cell (p := ⟨g, k * 14 + 9, none⟩) hgl).trans e9
      have f9' := (hbw.frozen (p := ⟨g, k * 14 + 9, none⟩) hgl).trans (HHx.out.soft (k * 14 + 9))
      have i9 := setCell_id e9'
      have e10' : w5.cell? ⟨g, k * 14 + 10, none⟩ = some (.int .i64 x10) := (hbw.cell (p := ⟨g, k * 14 + 10, none⟩) hgl).trans e10
      have f10' := (hbw.frozen (p := ⟨g, k * 14 + 10, none⟩) hgl).trans (HHx.out.soft (k * 14 + 10))
      have i10 := setCell_id e10'
      have e11' : w5.cell? ⟨g, k * 14 + 11, none⟩ = some (.int .i64 x11) := (hbw.cell (p := ⟨g, k * 14 + 11, none⟩) hgl).trans e11
      have f11' := (hbw.frozen (p := ⟨g, k * 14 + 11, none⟩) hgl).trans (HHx.out.soft (k * 14 + 11))
      have i11 := setCell_id e11'
      have e12' : w5.cell? ⟨g, k * 14 + 12, none⟩ = some (.int .i64 x12) := (hbw.cell (p := ⟨g, k * 14 + 12, none⟩) hgl).trans e12
      have f12' := (hbw.frozen (p := ⟨g, k * 14 + 12, none⟩) hgl).trans (HHx.out.soft (k * 14 + 12))
      have i12 := setCell_id e12'
      have e13' : w5.cell? ⟨g, k * 14 + 13, none⟩ = some (.slice ba M.length bc) := (hbw.cell (p := ⟨g, k * 14 + 13, none⟩) hgl).trans e13
      have f13' := (hbw.frozen (p := ⟨g, k * 14 + 13, none⟩) hgl).trans (HHx.out.soft (k * 14 + 13))
      clear e0 e1 e2 e3 e4 e5 e6 e7 e8 e9 e10 e11 e12 e13
      clear h hu5 hb5 hT ho hH hsf hbw q0 q1 q2 q3 q4 q5 q6 q7 q8 q9 q10 q11 q12 q13
      go_wp2
      go_roundw
      case rel =>
        try simp only [i0, i1, i2, i3, i4, i5, i6, i7, i8, i9, i10, i11, i12]
        exact ⟨k + 1, by omega, by go_num, Lib.hid ⟨_, _, _, HH5.out⟩, HBN.out⟩
      case measure => simp [intOf]; omega
    · have hdl : decide ((k : Int) < (L.length : Int)) = false := decide_eq_false (by omega)
      obtain rfl : k = L.length := by omega
      obtain ⟨ra, rc, hv, ho⟩ := HHx.out.done.done
      have HO := Lib.hid (show OwSl R_Task wr (Rg W.heap.size wr.heap.size) L ja jc from by cases hv; exact ho.more fun q hq => ⟨hq.1, Nat.lt_of_lt_of_le hq.2 HHx.out.le⟩)
      clear hB hv ho hh
      go_wp2
      go_ret
      exact ⟨ja, jc, rfl, HO.out, HB.out⟩
end Go.Proofs.Ytkghodbbgehcoaa.RepC
end
section
namespace Go.Proofs.Ytkghodbbgehcoaa.RepC
open Go.RowKit RowC ValC SpanC KeptC NameC
set_option linter.unusedVariables false
set_option linter.unusedSimpArgs false
set_option maxRecDepth 100000 in
set_option maxHeartbeats 3200000 in
theorem orph_spec {L : List D_Task} {a : Option Addr} {cap : Nat} {W : World} (hsz : (Sl R_Task).sz L ≤ 1048576) (h : RdSl R_Task W W.heap.size L a cap) :
    Calls Try.prog 43 #[.slice a L.length cap] W (NewS R_Task (orphans L) W) := by
  have hn : L.length ≤ 9223372036854775807 := by have h1 := h.1; have h2 := h.2.1; unfold maxLen at h2; omega
  have HSZ := Lib.hid hsz
  have H := Lib.hid h
  clear h hsz
  obtain ⟨wo, hwo⟩ : ∃ w, w = W.alloc (.cells #[] 43) := ⟨_, rfl⟩
  have HB0 := Lib.hid (show Below W.heap.size W wo from by rw [hwo]; exact (Below.refl _ _).alloc (Nat.le_refl _) _)
  have HR0 := Lib.hid (show ARow R_Task wo W.heap.size 43 (.slice (some ⟨W.heap.size, 0, none⟩) 0 0) [] from by rw [hwo]; exact ARow.made _ _ _)
  have HA0 := Lib.hid ((H.out.below R_Task_ok HB0.out).more R_Task_ok HB0.out.size)
  go_enter Try.func43, Try.ntmps43
  go_wp2_with fail
  rw [← hwo]
  clear hwo
  refine (tasks_spec HA0.out).mono ?_
  intro e w0 h
  obtain ⟨rfl, hb⟩ := isB_elim h
  have HB1 := Lib.hid (HB0.out.trans (hb.mono HB0.out.size))
  have HR1 := Lib.hid (HR0.out.call R_Task_ok hb)
  clear h hb HA0 HR0
  cases hq : tasksB L with
  | false =>
    have HE := Lib.hid (orphans_no hq)
    clear hq
    go_wp2
    go_ret
    rw [HE.out]
    exact HR1.out.news R_Task_ok (Nat.le_refl _) HB1.out
  | true =>
    have HE := Lib.hid (orphans_yes hq)
    have HTR := Lib.hid (tasksB_iff.1 hq)
    have hn96 : L.length ≤ 96 := HTR.out.1
    clear hq
    go_wp2
    go_loopw [4, 3] (fun i v wr => ∃ k : Nat, k ≤ L.length ∧ i = .int .i64 k ∧ Hid (ARow R_Task wr W.heap.size 43 v (orpTo L k)) ∧ Below W.heap.size W wr) (fun i _ _ => L.length - (intOf i).toNat)
    case atStart => exact ⟨0, Nat.zero_le _, rfl, HR1, HB1.out⟩
    case round =>
      obtain ⟨k, hk, rfl, HR, hB⟩ := hrel
      have HB := Lib.hid hB
      have hsz := hB.size
      obtain ⟨va, vc, hv⟩ := HR.out.isSlice
      rw [orpTo_len hk] at hv
      subst hv
      by_cases hlt : k < L.length
      · skip
        obtain ⟨⟨⟨x0, x1⟩, x2, x3, x4, x5, x6, ⟨x7, x8⟩, x9, x10, x11, x12, M⟩, hx⟩ := el_some hlt
        have HX := Lib.hid hx
        have HSI := Lib.hid (sz_in HSZ.out hx)
        have HOK := Lib.hid (HTR.out.2 k _ hx)
        obtain ⟨g, o, us, rfl, hg, hu, hr⟩ := (H.out.below R_Task_ok hB).at_ hx
        obtain ⟨ba, bc, rfl, k_M, b_x3⟩ := rd_Task hr
        have e0 : wr.cell? ⟨g, o + k * 14, none⟩ = some (.int .i64 x0) := by simpa [size_TaskS, Nat.add_assoc] using hu 0 _ rfl
        have e1 : wr.cell? ⟨g, o + k * 14 + 1, none⟩ = some (.int .i64 x1) := by simpa [size_TaskS, Nat.add_assoc] using hu 1 _ rfl
        have e2 : wr.cell? ⟨g, o + k * 14 + 2, none⟩ = some (.int .i64 x2) := by simpa [size_TaskS, Nat.add_assoc] using hu 2 _ rfl
        have e3 : wr.cell? ⟨g, o + k * 14 + 3, none⟩ = some (.string x3) := by simpa [size_TaskS, Nat.add_assoc] using hu 3 _ rfl
        have e4 : wr.cell? ⟨g, o + k * 14 + 4, none⟩ = some (.int .i64 x4) := by simpa [size_TaskS, Nat.add_assoc] using hu 4 _ rfl
        have e5 : wr.cell? ⟨g, o + k * 14 + 5, none⟩ = some (.int .i64 x5) := by simpa [size_TaskS, Nat.add_assoc] using hu 5 _ rfl
        have e6 : wr.cell? ⟨g, o + k * 14 + 6, none⟩ = some (.int .i64 x6) := by simpa [size_TaskS, Nat.add_assoc] using hu 6 _ rfl
        have e7 : wr.cell? ⟨g, o + k * 14 + 7, none⟩ = some (.int .i64 x7) := by simpa [size_TaskS, Nat.add_assoc] using hu 7 _ rfl
        have e8 : wr.cell? ⟨g, o + k * 14 + 8, none⟩ = some (.int .i64 x8) := by simpa [size_TaskS, Nat.add_assoc] using hu 8 _ rfl
        have e9 : wr.cell? ⟨g, o + k * 14 + 9, none⟩ = some (.int .i64 x9) := by simpa [size_TaskS, Nat.add_assoc] using hu 9 _ rfl
        have e10 : wr.cell? ⟨g, o + k * 14 + 10, none⟩ = some (.int .i64 x10) := by simpa [size_TaskS, Nat.add_assoc] using hu 10 _ rfl
        have e11 : wr.cell? ⟨g, o + k * 14 + 11, none⟩ = some (.int .i64 x11) := by simpa [size_TaskS, Nat.add_assoc] using hu 11 _ rfl
        have e12 : wr.cell? ⟨g, o + k * 14 + 12, none⟩ = some (.int .i64 x12) := by simpa [size_TaskS, Nat.add_assoc] using hu 12 _ rfl
        have e13 : wr.cell? ⟨g, o + k * 14 + 13, none⟩ = some (.slice ba M.length bc) := by simpa [size_TaskS, Nat.add_assoc] using hu 13 _ rfl
        have hi0 : (0 : Int) ≤ (k : Int) := Int.natCast_nonneg _
        have hi1 : (k : Int) < (L.length : Int) := by omega
        have HK := Lib.hid (k_M.more I_ok hsz)
        have HX3 := Lib.hid b_x3
        clear hu hr hg hB hx k_M
        go_wp2_with fail
        refine (copyT_spec HX3.out HSI.out.2 HK.out).mono ?_
        intro e w1 h
        obtain ⟨us, rfl, hu, hbC⟩ := newV_elim h
        obtain ⟨a5, c5, T5, rfl, hT, ho, _⟩ := ow_Task hu
        have HT5 := Lib.hid hT
        have HO5 := Lib.hid ho
        have HBC := Lib.hid hbC
        obtain ⟨w2, hw2⟩ : ∃ w, w = w1.alloc (.cells #[.int .i64 x0, .int .i64 x1, .int .i64 x2, .string x3, .int .i64 x4, .int .i64 x5, .int .i64 x6, .int .i64 x7, .int .i64 x8, .int .i64 x9, .int .i64 x10, .int .i64 x11, .int .i64 x12, .slice a5 M.length c5] 43) := ⟨_, rfl⟩
        have hb2 : Below w1.heap.size w1 w2 := by rw [hw2]; exact (Below.refl _ _).alloc (Nat.le_refl _) _
        have HP2 := Lib.hid (show Blk w2 w1.heap.size 43 #[.int .i64 x0, .int .i64 x1, .int .i64 x2, .string x3, .int .i64 x4, .int .i64 x5, .int .i64 x6, .int .i64 x7, .int .i64 x8, .int .i64 x9, .int .i64 x10, .int .i64 x11, .int .i64 x12, .slice a5 M.length c5] from by rw [hw2]; exact Blk.new _ _ _)
        have HBK := Lib.hid hb2
        clear h hu hT ho hbC hb2 b_x3 e0 e1 e2 e3 e4 e5 e6 e7 e8 e9 e10 e11 e12 e13
        go_upto_region 8 with fail
        rw [← hw2]
        clear hw2
        by_cases h9 : x9 = 0
        · have h9n : (x9 != 0) = false := by simp [h9]
          have HGON := Lib.hid (show gonB (orpTo L k) ((x0, x1), x2, x3, x4, x5, x6, (x7, x8), x9, x10, x11, x12, M) = false from by unfold gonB; rw [show (tAfter ((x0, x1), x2, x3, x4, x5, x6, (x7, x8), x9, x10, x11, x12, M) != 0) = false from h9n]; rfl)
          clear h9
          obtain ⟨w7, hw7⟩ : ∃ w, w = w2.alloc (.cells #[.int .i64 x0, .int .i64 x1, .int .i64 x2, .string x3, .int .i64 x4, .int .i64 x5, .int .i64 x6, .int .i64 x7, .int .i64 x8, .int .i64 x9, .int .i64 x10, .int .i64 x11, .int .i64 x12, .slice a5 M.length c5] 43) := ⟨_, rfl⟩
          have hb7 : Below w2.heap.size w2 w7 := by rw [hw7]; exact (Below.refl _ _).alloc (Nat.le_refl _) _
          have hbl : Blk w7 w2.heap.size 43 #[.int .i64 x0, .int .i64 x1, .int .i64 x2, .string x3, .int .i64 x4, .int .i64 x5, .int .i64 x6, .int .i64 x7, .int .i64 x8, .int .i64 x9, .int .i64 x10, .int .i64 x11, .int .i64 x12, .slice a5 M.length c5] := by rw [hw7]; exact Blk.new _ _ _
          have hb17 : Below w1.heap.size w1 w7 := HBK.out.trans (hb7.mono HBK.out.size)
          have hbr7 : Below wr.heap.size wr w7 := HBC.out.trans (hb17.mono HBC.out.size)
          have how : R_Task.ow w7 (Rg wr.heap.size w7.heap.size) ((x0, x1), x2, x3, x4, x5, x6, (x7, x8), x9, x10, x11, x12, M) [.int .i64 x0, .int .i64 x1, .int .i64 x2, .string x3, .int .i64 x4, .int .i64 x5, .int .i64 x6, .int .i64 x7, .int .i64 x8, .int .i64 x9, .int .i64 x10, .int .i64 x11, .int .i64 x12, .slice a5 M.length c5] := mkow_Task (fun q hq => ⟨(HT5.out q hq).1, Nat.lt_of_lt_of_le (HT5.out q hq).2 hb17.size⟩) (HO5.out.keep I_ok fun q hq => hb17.block q (HT5.out q hq).2) HX3.out
          obtain ⟨a3, c3, w8, hrun, hrow, hb8⟩ := app_task HR.out hbr7 hbl how (by rw [orpTo_len hk]; omega)
          have HRun := Lib.hid hrun
          rw [hw7] at HRun
          have HB8 := Lib.hid ((HB.out.trans (hbr7.mono hsz)).trans hb8)
          have hlen : (orpTo L k ++ [((x0, x1), x2, x3, x4, x5, x6, (x7, x8), x9, x10, x11, x12, M)]).length = k + 1 := by rw [List.length_append, orpTo_len hk]; rfl
          rw [hlen] at hrow HRun
          have HRW := Lib.hid (show ARow R_Task w8 W.heap.size 43 (.slice a3 (k + 1) c3) (orpTo L (k + 1)) from by rw [orpTo_step HX.out, stepO_no HGON.out]; exact hrow)
          clear hrun hrow hb8 how hbr7 hb17 hbl hb7 hw7 hlen
          have q0 := HP2.out.at_ 0 rfl
          have q1 := HP2.out.at_ 1 rfl
          have q2 := HP2.out.at_ 2 rfl
          have q3 := HP2.out.at_ 3 rfl
          have q4 := HP2.out.at_ 4 rfl
          have q5 := HP2.out.at_ 5 rfl
          have q6 := HP2.out.at_ 6 rfl
          have q7 := HP2.out.at_ 7 rfl
          have q8 := HP2.out.at_ 8 rfl
          have q9 := HP2.out.at_ 9 rfl
          have q10 := HP2.out.at_ 10 rfl
          have q11 := HP2.out.at_ 11 rfl
          have q12 := HP2.out.at_ 12 rfl
          have q13 := HP2.out.at_ 13 rfl
          go_wp2_with (at_builtin; refine wpList_app rfl (.tmp 56) (.tmp 58) 50 rfl rfl rfl HRun.out ?_)
          go_roundw
          case rel => exact ⟨k + 1, by omega, by go_num, HRW, HB8.out⟩
          case measure => simp [intOf]; omega
        have h9n : (x9 != 0) = true := by simp [h9]
        have H9 := Lib.hid h9
        have H9n := Lib.hid h9n
        clear h9
        by_cases hst : x11 = 1 ∨ x11 = 3
        rotate_left
        · have h1' : (x11 == 1) = false := beq_eq_false_iff_ne.2 (fun h => hst (.inl h))
          have h3' : (x11 == 3) = false := beq_eq_false_iff_ne.2 (fun h => hst (.inr h))
          have HGON := Lib.hid (show gonB (orpTo L k) ((x0, x1), x2, x3, x4, x5, x6, (x7, x8), x9, x10, x11, x12, M) = false from by unfold gonB; rw [show (tState ((x0, x1), x2, x3, x4, x5, x6, (x7, x8), x9, x10, x11, x12, M) == 1) = false from h1', show (tState ((x0, x1), x2, x3, x4, x5, x6, (x7, x8), x9, x10, x11, x12, M) == 3) = false from h3']; simp)
          clear hst
          obtain ⟨w7, hw7⟩ : ∃ w, w = w2.alloc (.cells #[.int .i64 x0, .int .i64 x1, .int .i64 x2, .string x3, .int .i64 x4, .int .i64 x5, .int .i64 x6, .int .i64 x7, .int .i64 x8, .int .i64 x9, .int .i64 x10, .int .i64 x11, .int .i64 x12, .slice a5 M.length c5] 43) := ⟨_, rfl⟩
          have hb7 : Below w2.heap.size w2 w7 := by rw [hw7]; exact (Below.refl _ _).alloc (Nat.le_refl _) _
          have hbl : Blk w7 w2.heap.size 43 #[.int .i64 x0, .int .i64 x1, .int .i64 x2, .string x3, .int .i64 x4, .int .i64 x5, .int .i64 x6, .int .i64 x7, .int .i64 x8, .int .i64 x9, .int .i64 x10, .int .i64 x11, .int .i64 x12, .slice a5 M.length c5] := by rw [hw7]; exact Blk.new _ _ _
          have hb17 : Below w1.heap.size w1 w7 := HBK.out.trans (hb7.mono HBK.out.size)
          have hbr7 : Below wr.heap.size wr w7 := HBC.out.trans (hb17.mono HBC.out.size)
          have how : R_Task.ow w7 (Rg wr.heap.size w7.heap.size) ((x0, x1), x2, x3, x4, x5, x6, (x7, x8), x9, x10, x11, x12, M) [.int .i64 x0, .int .i64 x1, .int .i64 x2, .string x3, .int .i64 x4, .int .i64 x5, .int .i64 x6, .int .i64 x7, .int .i64 x8, .int .i64 x9, .int .i64 x10, .int .i64 x11, .int .i64 x12, .slice a5 M.length c5] := mkow_Task (fun q hq => ⟨(HT5.out q hq).1, Nat.lt_of_lt_of_le (HT5.out q hq).2 hb17.size⟩) (HO5.out.keep I_ok fun q hq => hb17.block q (HT5.out q hq).2) HX3.out
          obtain ⟨a3, c3, w8, hrun, hrow, hb8⟩ := app_task HR.out hbr7 hbl how (by rw [orpTo_len hk]; omega)
          have HRun := Lib.hid hrun
          rw [hw7] at HRun
          have HB8 := Lib.hid ((HB.out.trans (hbr7.mono hsz)).trans hb8)
          have hlen : (orpTo L k ++ [((x0, x1), x2, x3, x4, x5, x6, (x7, x8), x9, x10, x11, x12, M)]).length = k + 1 := by rw [List.length_append, orpTo_len hk]; rfl
          rw [hlen] at hrow HRun
          have HRW := Lib.hid (show ARow R_Task w8 W.heap.size 43 (.slice a3 (k + 1) c3) (orpTo L (k + 1)) from by rw [orpTo_step HX.out, stepO_no HGON.out]; exact hrow)
          clear hrun hrow hb8 how hbr7 hb17 hbl hb7 hw7 hlen
          have q0 := HP2.out.at_ 0 rfl
          have q1 := HP2.out.at_ 1 rfl
          have q2 := HP2.out.at_ 2 rfl
          have q3 := HP2.out.at_ 3 rfl
          have q4 := HP2.out.at_ 4 rfl
          have q5 := HP2.out.at_ 5 rfl
          have q6 := HP2.out.at_ 6 rfl
          have q7 := HP2.out.at_ 7 rfl
          have q8 := HP2.out.at_ 8 rfl
          have q9 := HP2.out.at_ 9 rfl
          have q10 := HP2.out.at_ 10 rfl
          have q11 := HP2.out.at_ 11 rfl
          have q12 := HP2.out.at_ 12 rfl
          have q13 := HP2.out.at_ 13 rfl
          go_wp2_with (at_builtin; refine wpList_app rfl (.tmp 56) (.tmp 58) 50 rfl rfl rfl HRun.out ?_)
          go_roundw
          case rel => exact ⟨k + 1, by omega, by go_num, HRW, HB8.out⟩
          case measure => simp [intOf]; omega
        have HST := Lib.hid (show (tState ((x0, x1), x2, x3, x4, x5, x6, (x7, x8), x9, x10, x11, x12, M) == 1 || tState ((x0, x1), x2, x3, x4, x5, x6, (x7, x8), x9, x10, x11, x12, M) == 3) = true from by rcases hst with h | h <;> simp [h])
        have HGE := Lib.hid (show gonB (orpTo L k) ((x0, x1), x2, x3, x4, x5, x6, (x7, x8), x9, x10, x11, x12, M) = (stU (orpTo L k) ((x7, x8), x9) == 5 || stU (orpTo L k) ((x7, x8), x9) == 6) from by unfold gonB; rw [show (tAfter ((x0, x1), x2, x3, x4, x5, x6, (x7, x8), x9, x10, x11, x12, M) != 0) = true from H9n.out, HST.out]; rfl)
        have hAT : 0 ≤ atT (orpTo L k) ((x7, x8), x9) := by rw [atT_keys (orpTo_keys L k hk)]; exact HOK.out.2.2.2 H9.out
        obtain ⟨j, ⟨⟨y0, y1⟩, y2, y3, y4, y5, y6, ⟨y7, y8⟩, y9, y10, y11, y12, N⟩, hat, hy, _, _⟩ : ∃ (j : Nat) (y : D_Task), atT (orpTo L k) ((x7, x8), x9) = (j : Int) ∧ (orpTo L k)[j]? = some y ∧ tKey y = ((x7, x8), x9) ∧ ∀ (i : Nat) (y : D_Task), i < j → (orpTo L k)[i]? = some y → tKey y ≠ ((x7, x8), x9) := by
          rcases atT_cases (orpTo L k) ((x7, x8), x9) with ⟨h, _⟩ | h
          · omega
          · exact h
        have HSU := Lib.hid (show stU (orpTo L k) ((x7, x8), x9) = y11 from stU_hit hat hy)
        have HAT := Lib.hid hat
        have HY := Lib.hid hy
        have hjk : j < k := by have h1 := (List.getElem?_eq_some_iff.1 hy).1; rw [orpTo_len hk] at h1; exact h1
        have HR2 := Lib.hid (HR.out.call R_Task_ok (HBC.out.trans (HBK.out.mono HBC.out.size)))
        have HRR := Lib.hid ((HR2.out.rd R_Task_ok).2)
        clear hAT hat hy
        have hreg : (x11 == 1) = true ∨ ((x11 == 1) = false ∧ (x11 == 3) = true) := by
          rcases hst with h | h
          · left; simp [h]
          · right; simp [h]
        clear hst
        have q0 := HP2.out.at_ 0 rfl
        have q1 := HP2.out.at_ 1 rfl
        have q2 := HP2.out.at_ 2 rfl
        have q3 := HP2.out.at_ 3 rfl
        have q4 := HP2.out.at_ 4 rfl
        have q5 := HP2.out.at_ 5 rfl
        have q6 := HP2.out.at_ 6 rfl
        have q7 := HP2.out.at_ 7 rfl
        have q8 := HP2.out.at_ 8 rfl
        have q9 := HP2.out.at_ 9 rfl
        have q10 := HP2.out.at_ 10 rfl
        have q11 := HP2.out.at_ 11 rfl
        have q12 := HP2.out.at_ 12 rfl
        have q13 := HP2.out.at_ 13 rfl
        rcases hreg with h1' | ⟨h1', h3'⟩
        all_goals
          go_wp2_with fail
          refine (at_spec (orpTo_len hk) HRR.out).mono ?_
          rintro e w3 ⟨rfl, hb⟩
          rw [HAT.out]
          have HP3 := Lib.hid (HP2.out.call hb)
          have HRR3 := Lib.hid ((HRR.out.below R_Task_ok hb).more R_Task_ok hb.size)
          have HBK := Lib.hid (HBK.out.trans (hb.mono HBK.out.size))
          obtain ⟨g2, o2, us2, hva, hg2, hu2, hr2⟩ := HRR3.out.at_ HY.out
          subst hva
          obtain ⟨da, dc, rfl, k_N, b_y3⟩ := rd_Task hr2
          have d0 : w3.cell? ⟨g2, o2 + j * 14, none⟩ = some (.int .i64 y0) := by simpa [size_TaskS, Nat.add_assoc] using hu2 0 _ rfl
          have d1 : w3.cell? ⟨g2, o2 + j * 14 + 1, none⟩ = some (.int .i64 y1) := by simpa [size_TaskS, Nat.add_assoc] using hu2 1 _ rfl
          have d2 : w3.cell? ⟨g2, o2 + j * 14 + 2, none⟩ = some (.int .i64 y2) := by simpa [size_TaskS, Nat.add_assoc] using hu2 2 _ rfl
          have d3 : w3.cell? ⟨g2, o2 + j * 14 + 3, none⟩ = some (.string y3) := by simpa [size_TaskS, Nat.add_assoc] using hu2 3 _ rfl
          have d4 : w3.cell? ⟨g2, o2 + j * 14 + 4, none⟩ = some (.int .i64 y4) := by simpa [size_TaskS, Nat.add_assoc] using hu2 4 _ rfl
          have d5 : w3.cell? ⟨g2, o2 + j * 14 + 5, none⟩ = some (.int .i64 y5) := by simpa [size_TaskS, Nat.add_assoc] using hu2 5 _ rfl
          have d6 : w3.cell? ⟨g2, o2 + j * 14 + 6, none⟩ = some (.int .i64 y6) := by simpa [size_TaskS, Nat.add_assoc] using hu2 6 _ rfl
          have d7 : w3.cell? ⟨g2, o2 + j * 14 + 7, none⟩ = some (.int .i64 y7) := by simpa [size_TaskS, Nat.add_assoc] using hu2 7 _ rfl
          have d8 : w3.cell? ⟨g2, o2 + j * 14 + 8, none⟩ = some (.int .i64 y8) := by simpa [size_TaskS, Nat.add_assoc] using hu2 8 _ rfl
          have d9 : w3.cell? ⟨g2, o2 + j * 14 + 9, none⟩ = some (.int .i64 y9) := by simpa [size_TaskS, Nat.add_assoc] using hu2 9 _ rfl
          have d10 : w3.cell? ⟨g2, o2 + j * 14 + 10, none⟩ = some (.int .i64 y10) := by simpa [size_TaskS, Nat.add_assoc] using hu2 10 _ rfl
          have d11 : w3.cell? ⟨g2, o2 + j * 14 + 11, none⟩ = some (.int .i64 y11) := by simpa [size_TaskS, Nat.add_assoc] using hu2 11 _ rfl
          have d12 : w3.cell? ⟨g2, o2 + j * 14 + 12, none⟩ = some (.int .i64 y12) := by simpa [size_TaskS, Nat.add_assoc] using hu2 12 _ rfl
          have d13 : w3.cell? ⟨g2, o2 + j * 14 + 13, none⟩ = some (.slice da N.length dc) := by simpa [size_TaskS, Nat.add_assoc] using hu2 13 _ rfl
          have hj0 : (0 : Int) ≤ (j : Int) := Int.natCast_nonneg _
          have hj1 : (j : Int) < (k : Int) := by omega
          obtain ⟨w4, hw4⟩ : ∃ w, w = w3.alloc (.cells #[.int .i64 y0, .int .i64 y1, .int .i64 y2, .string y3, .int .i64 y4, .int .i64 y5, .int .i64 y6, .int .i64 y7, .int .i64 y8, .int .i64 y9, .int .i64 y10, .int .i64 y11, .int .i64 y12, .slice da N.length dc] 43) := ⟨_, rfl⟩
          have hb4 : Below w3.heap.size w3 w4 := by rw [hw4]; exact (Below.refl _ _).alloc (Nat.le_refl _) _
          have HP4 := Lib.hid (HP3.out.call hb4)
          have HY4 := Lib.hid (show Blk w4 w3.heap.size 43 #[.int .i64 y0, .int .i64 y1, .int .i64 y2, .string y3, .int .i64 y4, .int .i64 y5, .int .i64 y6, .int .i64 y7, .int .i64 y8, .int .i64 y9, .int .i64 y10, .int .i64 y11, .int .i64 y12, .slice da N.length dc] from by rw [hw4]; exact Blk.new _ _ _)
          have HBK := Lib.hid (HBK.out.trans (hb4.mono HBK.out.size))
          clear hb hb4 hu2 hr2 hg2 k_N q0 q1 q2 q3 q4 q5 q6 q7 q8 q9 q10 q11 q12 q13
          go_upto_region 10 with fail
          rw [← hw4]
          clear hw4 d0 d1 d2 d3 d4 d5 d6 d7 d8 d9 d10 d11 d12 d13
          have y11c := HY4.out.at_ 11 rfl
          by_cases hs : y11 = 5 ∨ y11 = 6
          rotate_left
          · have h5 : (y11 == 5) = false := beq_eq_false_iff_ne.2 (fun h => hs (.inl h))
            have h6 : (y11 == 6) = false := beq_eq_false_iff_ne.2 (fun h => hs (.inr h))
            have HGON := Lib.hid (show gonB (orpTo L k) ((x0, x1), x2, x3, x4, x5, x6, (x7, x8), x9, x10, x11, x12, M) = false from by rw [HGE.out, HSU.out, h5, h6]; rfl)
            clear hs
            obtain ⟨w7, hw7⟩ : ∃ w, w = w4.alloc (.cells #[.int .i64 x0, .int .i64 x1, .int .i64 x2, .string x3, .int .i64 x4, .int .i64 x5, .int .i64 x6, .int .i64 x7, .int .i64 x8, .int .i64 x9, .int .i64 x10, .int .i64 x11, .int .i64 x12, .slice a5 M.length c5] 43) := ⟨_, rfl⟩
            have hb7 : Below w4.heap.size w4 w7 := by rw [hw7]; exact (Below.refl _ _).alloc (Nat.le_refl _) _
            have hbl : Blk w7 w4.heap.size 43 #[.int .i64 x0, .int .i64 x1, .int .i64 x2, .string x3, .int .i64 x4, .int .i64 x5, .int .i64 x6, .int .i64 x7, .int .i64 x8, .int .i64 x9, .int .i64 x10, .int .i64 x11, .int .i64 x12, .slice a5 M.length c5] := by rw [hw7]; exact Blk.new _ _ _
            have hb17 : Below w1.heap.size w1 w7 := HBK.out.trans (hb7.mono HBK.out.size)
            have hbr7 : Below wr.heap.size wr w7 := HBC.out.trans (hb17.mono HBC.out.size)
            have how : R_Task.ow w7 (Rg wr.heap.size w7.heap.size) ((x0, x1), x2, x3, x4, x5, x6, (x7, x8), x9, x10, x11, x12, M) [.int .i64 x0, .int .i64 x1, .int .i64 x2, .string x3, .int .i64 x4, .int .i64 x5, .int .i64 x6, .int .i64 x7, .int .i64 x8, .int .i64 x9, .int .i64 x10, .int .i64 x11, .int .i64 x12, .slice a5 M.length c5] := mkow_Task (fun q hq => ⟨(HT5.out q hq).1, Nat.lt_of_lt_of_le (HT5.out q hq).2 hb17.size⟩) (HO5.out.keep I_ok fun q hq => hb17.block q (HT5.out q hq).2) HX3.out
            obtain ⟨a3, c3, w8, hrun, hrow, hb8⟩ := app_task HR.out hbr7 hbl how (by rw [orpTo_len hk]; omega)
            have HRun := Lib.hid hrun
            rw [hw7] at HRun
            have HB8 := Lib.hid ((HB.out.trans (hbr7.mono hsz)).trans hb8)
            have hlen : (orpTo L k ++ [((x0, x1), x2, x3, x4, x5, x6, (x7, x8), x9, x10, x11, x12, M)]).length = k + 1 := by rw [List.length_append, orpTo_len hk]; rfl
            rw [hlen] at hrow HRun
            have HRW := Lib.hid (show ARow R_Task w8 W.heap.size 43 (.slice a3 (k + 1) c3) (orpTo L (k + 1)) from by rw [orpTo_step HX.out, stepO_no HGON.out]; exact hrow)
            clear hrun hrow hb8 how hbr7 hb17 hbl hb7 hw7 hlen
            have q0 := HP4.out.at_ 0 rfl
            have q1 := HP4.out.at_ 1 rfl
            have q2 := HP4.out.at_ 2 rfl
            have q3 := HP4.out.at_ 3 rfl
            have q4 := HP4.out.at_ 4 rfl
            have q5 := HP4.out.at_ 5 rfl
            have q6 := HP4.out.at_ 6 rfl
            have q7 := HP4.out.at_ 7 rfl
            have q8 := HP4.out.at_ 8 rfl
            have q9 := HP4.out.at_ 9 rfl
            have q10 := HP4.out.at_ 10 rfl
            have q11 := HP4.out.at_ 11 rfl
            have q12 := HP4.out.at_ 12 rfl
            have q13 := HP4.out.at_ 13 rfl
            go_wp2_with (at_builtin; refine wpList_app rfl (.tmp 56) (.tmp 58) 50 rfl rfl rfl HRun.out ?_)
            go_roundw
            case rel => exact ⟨k + 1, by omega, by go_num, HRW, HB8.out⟩
            case measure => simp [intOf]; omega
          · have HGON := Lib.hid (show gonB (orpTo L k) ((x0, x1), x2, x3, x4, x5, x6, (x7, x8), x9, x10, x11, x12, M) = true from by rw [HGE.out, HSU.out]; rcases hs with h | h <;> simp [h])
            have hor : (y11 == 5) = true ∨ ((y11 == 5) = false ∧ (y11 == 6) = true) := by
              rcases hs with h | h
              · left; simp [h]
              · right; simp [h]
            clear hs
            obtain ⟨w5, hw5⟩ : ∃ w, w = ((w4.setCell ⟨w1.heap.size, 11, none⟩ (.int .i64 6)).setCell ⟨w1.heap.size, 12, none⟩ (.int .i64 0)).setCell ⟨w1.heap.size, 13, none⟩ (.slice none 0 0) := ⟨_, rfl⟩
            have HP5 := Lib.hid (show Blk w5 w1.heap.size 43 #[.int .i64 x0, .int .i64 x1, .int .i64 x2, .string x3, .int .i64 x4, .int .i64 x5, .int .i64 x6, .int .i64 x7, .int .i64 x8, .int .i64 x9, .int .i64 x10, .int .i64 6, .int .i64 0, .slice none 0 0] from by rw [hw5]; exact Blk.as (((HP4.out.set 11 _).set 12 _).set 13 _) (by kernel_rfl))
            have HBK := Lib.hid (show Below w1.heap.size w1 w5 from by rw [hw5]; exact ((HBK.out.setCell (p := ⟨w1.heap.size, 11, none⟩) (Nat.le_refl _) _).setCell (p := ⟨w1.heap.size, 12, none⟩) (Nat.le_refl _) _).setCell (p := ⟨w1.heap.size, 13, none⟩) (Nat.le_refl _) _)
            have q11 := HP4.out.at_ 11 rfl
            have s11 := HP4.out.soft 11
            have q12 := HP4.out.at_ 12 rfl
            have s12 := HP4.out.soft 12
            have q13 := HP4.out.at_ 13 rfl
            have s13 := HP4.out.soft 13
            rcases hor with h5 | ⟨h5, h6⟩
            all_goals
              go_upto_region 14 with fail
              rw [← hw5]
              clear hw5 q11 s11 q12 s12 q13 s13 y11c
              obtain ⟨w7, hw7⟩ : ∃ w, w = w5.alloc (.cells #[.int .i64 x0, .int .i64 x1, .int .i64 x2, .string x3, .int .i64 x4, .int .i64 x5, .int .i64 x6, .int .i64 x7, .int .i64 x8, .int .i64 x9, .int .i64 x10, .int .i64 6, .int .i64 0, .slice none 0 0] 43) := ⟨_, rfl⟩
              have hb7 : Below w5.heap.size w5 w7 := by rw [hw7]; exact (Below.refl _ _).alloc (Nat.le_refl _) _
              have hbl : Blk w7 w5.heap.size 43 #[.int .i64 x0, .int .i64 x1, .int .i64 x2, .string x3, .int .i64 x4, .int .i64 x5, .int .i64 x6, .int .i64 x7, .int .i64 x8, .int .i64 x9, .int .i64 x10, .int .i64 6, .int .i64 0, .slice none 0 0] := by rw [hw7]; exact Blk.new _ _ _
              have hb17 : Below w1.heap.size w1 w7 := HBK.out.trans (hb7.mono HBK.out.size)
              have hbr7 : Below wr.heap.size wr w7 := HBC.out.trans (hb17.mono HBC.out.size)
              have how : R_Task.ow w7 (Rg wr.heap.size w7.heap.size) ((x0, x1), x2, x3, x4, x5, x6, (x7, x8), x9, x10, 6, 0, []) [.int .i64 x0, .int .i64 x1, .int .i64 x2, .string x3, .int .i64 x4, .int .i64 x5, .int .i64 x6, .int .i64 x7, .int .i64 x8, .int .i64 x9, .int .i64 x10, .int .i64 6, .int .i64 0, .slice none 0 0] := mkow_Task (T0 := fun _ => False) (fun q h => h.elim) ⟨Nat.le_refl _, Nat.zero_le _, fun h => absurd h (Nat.lt_irrefl _)⟩ HX3.out
              obtain ⟨a3, c3, w8, hrun, hrow, hb8⟩ := app_task HR.out hbr7 hbl how (by rw [orpTo_len hk]; omega)
              have HRun := Lib.hid hrun
              rw [hw7] at HRun
              have HB8 := Lib.hid ((HB.out.trans (hbr7.mono hsz)).trans hb8)
              have hlen : (orpTo L k ++ [((x0, x1), x2, x3, x4, x5, x6, (x7, x8), x9, x10, 6, 0, [])]).length = k + 1 := by rw [List.length_append, orpTo_len hk]; rfl
              rw [hlen] at hrow HRun
              have HRW := Lib.hid (show ARow R_Task w8 W.heap.size 43 (.slice a3 (k + 1) c3) (orpTo L (k + 1)) from by rw [orpTo_step HX.out, stepO_yes HGON.out]; exact hrow)
              clear hrun hrow hb8 how hbr7 hb17 hbl hb7 hw7 hlen
              have q0 := HP5.out.at_ 0 rfl
              have q1 := HP5.out.at_ 1 rfl
              have q2 := HP5.out.at_ 2 rfl
              have q3 := HP5.out.at_ 3 rfl
              have q4 := HP5.out.at_ 4 rfl
              have q5 := HP5.out.at_ 5 rfl
              have q6 := HP5.out.at_ 6 rfl
              have q7 := HP5.out.at_ 7 rfl
              have q8 := HP5.out.at_ 8 rfl
              have q9 := HP5.out.at_ 9 rfl
              have q10 := HP5.out.at_ 10 rfl
              have q11 := HP5.out.at_ 11 rfl
              have q12 := HP5.out.at_ 12 rfl
              have q13 := HP5.out.at_ 13 rfl
              go_wp2_with (at_builtin; refine wpList_app rfl (.tmp 56) (.tmp 58) 50 rfl rfl rfl HRun.out ?_)
              go_roundw
              case rel => exact ⟨k + 1, by omega, by go_num, HRW, HB8.out⟩
              case measure => simp [intOf]; omega
      · have hdl : decide ((k : Int) < (L.length : Int)) = false := decide_eq_false (by omega)
        obtain rfl : k = L.length := by omega
        clear hB
        go_wp2
        go_ret
        rw [HE.out]
        exact HR.out.news R_Task_ok (Nat.le_refl _) HB.out
end Go.Proofs.Ytkghodbbgehcoaa.RepC
end
