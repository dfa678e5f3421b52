/- Of this claim's texts the part 6: TaO4 TaGo TaW7. -/
import Derived.Test.YtkghodbbgehcoaaPO5
section
namespace Go.Proofs.Ytkghodbbgehcoaa.RepC
open Go.RowKit RowC ValC SpanC KeptC NameC
set_option linter.unusedVariables false
set_option linter.unusedSimpArgs false
def iorB (L : List D_Task) (x : D_Task) : Bool := (tState x == 1 || tState x == 3) && (stU L (tUnder x, tAfter x) == 5 || stU L (tUnder x, tAfter x) == 6)
def mixT (L : List D_Task) (k : Nat) : List D_Task := orpTo L k ++ L.drop k
theorem set_same {α : Type} {L : List α} {k : Nat} {x : α} (h : L[k]? = some x) : L.set k x = L := by
  apply List.ext_getElem?
  intro i
  rw [List.getElem?_set]
  by_cases e : k = i
  · subst e; rw [if_pos rfl, if_pos (List.getElem?_eq_some_iff.1 h).1, h]
  · rw [if_neg e]
theorem Row.bel {α : Type} {E : Rp α} (hE : Ok E) {W W' : World} {S : Nat → Prop} {L : List α} {g : Nat} {Sf : Nat → Nat → Prop} (h : Row E W S L g Sf) (hS : ∀ k, S k → k < W.heap.size) (hb : Below W.heap.size W W') : Row E W' S L g Sf := by
  refine ⟨h.own, fun j => (hb.frozen (p := ⟨g, j, none⟩) (hS g h.own)).trans (h.soft j), h.sub, h.dis, fun i x hx => ?_⟩
  obtain ⟨us, hu, ho⟩ := h.el i x hx
  exact ⟨us, hu.keep (hb.block g (hS g h.own)), hE.ow_keep ho fun q hq => hb.block q (hS q (h.sub i q hq).1)⟩
theorem mixT_zero (L : List D_Task) : mixT L 0 = L := by simp [mixT, orpTo]
theorem mixT_end (L : List D_Task) : mixT L L.length = orpTo L L.length := by simp [mixT]
theorem mixT_len {L : List D_Task} {k : Nat} (hk : k ≤ L.length) : (mixT L k).length = L.length := by
  unfold mixT
  rw [List.length_append, orpTo_len hk, List.length_drop]
  omega
theorem mixT_at {L : List D_Task} {k : Nat} (hk : k ≤ L.length) : (mixT L k)[k]? = L[k]? := by
  unfold mixT
  rw [List.getElem?_append_right (by rw [orpTo_len hk]; exact Nat.le_refl _), orpTo_len hk, List.getElem?_drop]
  congr 1
  omega
theorem mixT_lo {L : List D_Task} {k i : Nat} (hk : k ≤ L.length) (hi : i < k) : (mixT L k)[i]? = (orpTo L k)[i]? := by
  unfold mixT
  rw [List.getElem?_append_left (by rw [orpTo_len hk]; exact hi)]
theorem mixT_keys {L : List D_Task} {k : Nat} (hk : k ≤ L.length) : (mixT L k).map tKey = L.map tKey := by
  unfold mixT
  rw [List.map_append, orpTo_keys L k hk, ← List.map_append, List.take_append_drop]
theorem mixT_step {L : List D_Task} {k : Nat} {x : D_Task} (hx : L[k]? = some x) : mixT L (k + 1) = (mixT L k).set k (stepO (orpTo L k) x) := by
  have hk := (List.getElem?_eq_some_iff.1 hx).1
  unfold mixT
  rw [orpTo_step hx, List.set_append_right _ _ (by rw [orpTo_len (by omega)]; exact Nat.le_refl _), orpTo_len (by omega), Nat.sub_self]
  have e : L.drop k = x :: L.drop (k + 1) := by
    rw [List.drop_eq_getElem_cons hk, (List.getElem?_eq_some_iff.1 hx).2]
  rw [e, List.set_cons_zero, List.append_assoc]
  rfl
theorem incT_keys {L M : List D_Task} (h : L.map tKey = M.map tKey) (hI : IncT M M.length) : IncT L L.length := by
  have hl : L.length = M.length := by simpa using congrArg List.length h
  intro i j x y hij hj hx hy
  have e : ∀ {q : Nat} {z : D_Task}, L[q]? = some z → ∃ u, M[q]? = some u ∧ tKey u = tKey z := fun {q z} hz => by
    have h1 : (L.map tKey)[q]? = some (tKey z) := by rw [List.getElem?_map, hz]; rfl
    rw [h, List.getElem?_map] at h1
    cases hm : M[q]? with
    | none => rw [hm] at h1; cases h1
    | some u => rw [hm] at h1; exact ⟨u, rfl, by simpa using h1⟩
  obtain ⟨u, hu, e1⟩ := e hx
  obtain ⟨v, hv, e2⟩ := e hy
  rw [← e1, ← e2]
  exact hI i j u v hij (by omega) hu hv
theorem ior_gon {L : List D_Task} (hR : TasksR L) {k : Nat} {x : D_Task} (hx : L[k]? = some x) : iorB (mixT L k) x = gonB (orpTo L k) x := by
  have hk := (List.getElem?_eq_some_iff.1 hx).1
  have hok := hR.2 k x hx
  have hAm : atT (mixT L k) (tUnder x, tAfter x) = atT L (tUnder x, tAfter x) := atT_keys (mixT_keys (by omega)) _
  by_cases h9 : tAfter x = 0
  · have hz : atT L (tUnder x, tAfter x) = -1 := atT_miss fun i y hi hy he => by
      have h1 := (hR.2 i y hy).1.id
      have h2 : tId y = tAfter x := congrArg Prod.snd he
      omega
    have hs : stU (mixT L k) (tUnder x, tAfter x) = 0 := stU_none (hAm.trans hz)
    unfold iorB gonB
    rw [hs, show (tAfter x != 0) = false from by simp [h9]]
    simp
  · have h1 := hok.2.2.2 h9
    rw [← atT_keys (orpTo_keys L k (by omega))] at h1
    obtain ⟨j, y, hat, hy, hky, _⟩ : ∃ (j : Nat) (y : D_Task), atT (orpTo L k) (tUnder x, tAfter x) = (j : Int) ∧ (orpTo L k)[j]? = some y ∧ tKey y = (tUnder x, tAfter x) ∧ ∀ (i : Nat) (y : D_Task), i < j → (orpTo L k)[i]? = some y → tKey y ≠ (tUnder x, tAfter x) := by
      rcases atT_cases (orpTo L k) (tUnder x, tAfter x) with ⟨h, _⟩ | h
      · omega
      · exact h
    have hjk : j < k := by have h1 := (List.getElem?_eq_some_iff.1 hy).1; rw [orpTo_len (by omega)] at h1; exact h1
    have hy2 : (mixT L k)[j]? = some y := by rw [mixT_lo (by omega) hjk]; exact hy
    have hI : IncT (mixT L k) (mixT L k).length := incT_keys (mixT_keys (by omega)) (tasksR_inc hR)
    have e1 : stU (mixT L k) (tUnder x, tAfter x) = tState y := stU_hit (atT_of hI hy2 hky) hy2
    have e2 : stU (orpTo L k) (tUnder x, tAfter x) = tState y := stU_hit hat hy
    unfold iorB gonB
    rw [e1, e2, show (tAfter x != 0) = true from by simp [h9]]
    rfl
set_option maxRecDepth 100000 in
set_option maxHeartbeats 1600000 in
theorem isorp_w {L : List D_Task} {n : Nat} {a : Option Addr} {cap : Nat} {x0 x1 x2 : Int} {x3 : ByteArray} {x4 x5 x6 x7 x8 x9 x10 x11 x12 : Int} {M : List Int} {ba : Option Addr} {bc : Nat} {W : World} (hLn : L.length = n) (hn : L.length ≤ 1048576) (hI : IncT L L.length) (h : RdSl R_Task W W.heap.size L a cap) :
    Calls Try.prog 96 #[.slice a n cap, .agg #[.int .i64 x0, .int .i64 x1, .int .i64 x2, .string x3, .int .i64 x4, .int .i64 x5, .int .i64 x6, .int .i64 x7, .int .i64 x8, .int .i64 x9, .int .i64 x10, .int .i64 x11, .int .i64 x12, .slice ba M.length bc]] W fun e w' => e = .returned (.bool (iorB L ((x0, x1), x2, x3, x4, x5, x6, (x7, x8), x9, x10, x11, x12, M))) ∧ Below W.heap.size W w' := by
  have H := Lib.hid h
  have HI9 := Lib.hid hI
  clear h hI
  obtain ⟨wo, hwo⟩ : ∃ w, w = W.alloc (.cells #[.int .i64 x0, .int .i64 x1, .int .i64 x2, .string x3, .int .i64 x4, .int .i64 x5, .int .i64 x6, .int .i64 x7, .int .i64 x8, .int .i64 x9, .int .i64 x10, .int .i64 x11, .int .i64 x12, .slice ba M.length bc] 43) := ⟨_, rfl⟩
  have HB0 := Lib.hid (show Below W.heap.size W wo from by rw [hwo]; exact (Below.refl _ _).alloc (Nat.le_refl _) _)
  have HP0 := Lib.hid (show Blk wo W.heap.size 43 #[.int .i64 x0, .int .i64 x1, .int .i64 x2, .string x3, .int .i64 x4, .int .i64 x5, .int .i64 x6, .int .i64 x7, .int .i64 x8, .int .i64 x9, .int .i64 x10, .int .i64 x11, .int .i64 x12, .slice ba M.length bc] from by rw [hwo]; exact Blk.new _ _ _)
  have HA0 := Lib.hid ((H.out.below R_Task_ok HB0.out).more R_Task_ok HB0.out.size)
  have q0 := HP0.out.at_ 0 rfl
  have q1 := HP0.out.at_ 1 rfl
  have q2 := HP0.out.at_ 2 rfl
  have q3 := HP0.out.at_ 3 rfl
  have q4 := HP0.out.at_ 4 rfl
  have q5 := HP0.out.at_ 5 rfl
  have q6 := HP0.out.at_ 6 rfl
  have q7 := HP0.out.at_ 7 rfl
  have q8 := HP0.out.at_ 8 rfl
  have q9 := HP0.out.at_ 9 rfl
  have q10 := HP0.out.at_ 10 rfl
  have q11 := HP0.out.at_ 11 rfl
  have q12 := HP0.out.at_ 12 rfl
  have q13 := HP0.out.at_ 13 rfl
  by_cases h1 : x11 = 1
  · have h1n : (x11 != 1) = false := by simp [h1]
    have HST := Lib.hid (show (tState ((x0, x1), x2, x3, x4, x5, x6, (x7, x8), x9, x10, x11, x12, M) == 1 || tState ((x0, x1), x2, x3, x4, x5, x6, (x7, x8), x9, x10, x11, x12, M) == 3) = true from by simp [h1])
    clear h1
    go_enter Try.func96, Try.ntmps96
    go_upto_region 1 with fail
    rw [← hwo]
    clear hwo
    go_wp2_with fail
    refine (under_w (x0 := x0) (x1 := x1) (x2 := x2) (x3 := x3) (x4 := x4) (x5 := x5) (x6 := x6) (x7 := x7) (x8 := x8) (x9 := x9) (x10 := x10) (x11 := x11) (x12 := x12) (M := M) (ba := ba) (bc := bc) hLn hn HI9.out HA0.out).mono ?_
    rintro e w1 ⟨rfl, hb⟩
    have HB1 := Lib.hid (HB0.out.trans (hb.mono HB0.out.size))
    obtain ⟨s, hs⟩ : ∃ s, stU L ((x7, x8), x9) = s := ⟨_, rfl⟩
    have HS := Lib.hid hs
    rw [hs]
    clear q0 q1 q2 q3 q4 q5 q6 q7 q8 q9 q10 q11 q12 q13 hb hs
    by_cases h5 : s = 5
    · have h5' : (s == 5) = true := beq_iff_eq.2 h5
      have HE := Lib.hid (show iorB L ((x0, x1), x2, x3, x4, x5, x6, (x7, x8), x9, x10, x11, x12, M) = true from by unfold iorB; rw [HST.out, show (stU L (tUnder ((x0, x1), x2, x3, x4, x5, x6, (x7, x8), x9, x10, x11, x12, M), tAfter ((x0, x1), x2, x3, x4, x5, x6, (x7, x8), x9, x10, x11, x12, M)) == 5) = true from by rw [show stU L (tUnder ((x0, x1), x2, x3, x4, x5, x6, (x7, x8), x9, x10, x11, x12, M), tAfter ((x0, x1), x2, x3, x4, x5, x6, (x7, x8), x9, x10, x11, x12, M)) = s from HS.out]; exact h5']; rfl)
      clear h5
      go_wp2
      go_ret
      exact ⟨by rw [HE.out]; rfl, HB1.out⟩
    · have h5' : (s == 5) = false := beq_eq_false_iff_ne.2 h5
      have HE := Lib.hid (show iorB L ((x0, x1), x2, x3, x4, x5, x6, (x7, x8), x9, x10, x11, x12, M) = (s == 6) from by unfold iorB; rw [HST.out, show (stU L (tUnder ((x0, x1), x2, x3, x4, x5, x6, (x7, x8), x9, x10, x11, x12, M), tAfter ((x0, x1), x2, x3, x4, x5, x6, (x7, x8), x9, x10, x11, x12, M)) == 5) = false from by rw [show stU L (tUnder ((x0, x1), x2, x3, x4, x5, x6, (x7, x8), x9, x10, x11, x12, M), tAfter ((x0, x1), x2, x3, x4, x5, x6, (x7, x8), x9, x10, x11, x12, M)) = s from HS.out]; exact h5', show stU L (tUnder ((x0, x1), x2, x3, x4, x5, x6, (x7, x8), x9, x10, x11, x12, M), tAfter ((x0, x1), x2, x3, x4, x5, x6, (x7, x8), x9, x10, x11, x12, M)) = s from HS.out]; simp)
      clear h5
      go_wp2
      go_ret
      exact ⟨by rw [HE.out]; rfl, HB1.out⟩
  have h1n : (x11 != 1) = true := by simp [h1]
  by_cases h3 : x11 = 3
  · have h3n : (x11 != 3) = false := by simp [h3]
    have HST := Lib.hid (show (tState ((x0, x1), x2, x3, x4, x5, x6, (x7, x8), x9, x10, x11, x12, M) == 1 || tState ((x0, x1), x2, x3, x4, x5, x6, (x7, x8), x9, x10, x11, x12, M) == 3) = true from by simp [h3])
    clear h1 h3
    go_enter Try.func96, Try.ntmps96
    go_upto_region 1 with fail
    rw [← hwo]
    clear hwo
    go_wp2_with fail
    refine (under_w (x0 := x0) (x1 := x1) (x2 := x2) (x3 := x3) (x4 := x4) (x5 := x5) (x6 := x6) (x7 := x7) (x8 := x8) (x9 := x9) (x10 := x10) (x11 := x11) (x12 := x12) (M := M) (ba := ba) (bc := bc) hLn hn HI9.out HA0.out).mono ?_
    rintro e w1 ⟨rfl, hb⟩
    have HB1 := Lib.hid (HB0.out.trans (hb.mono HB0.out.size))
    obtain ⟨s, hs⟩ : ∃ s, stU L ((x7, x8), x9) = s := ⟨_, rfl⟩
    have HS := Lib.hid hs
    rw [hs]
    clear q0 q1 q2 q3 q4 q5 q6 q7 q8 q9 q10 q11 q12 q13 hb hs
    by_cases h5 : s = 5
    · have h5' : (s == 5) = true := beq_iff_eq.2 h5
      have HE := Lib.hid (show iorB L ((x0, x1), x2, x3, x4, x5, x6, (x7, x8), x9, x10, x11, x12, M) = true from by unfold iorB; rw [HST.out, show (stU L (tUnder ((x0, x1), x2, x3, x4, x5, x6, (x7, x8), x9, x10, x11, x12, M), tAfter ((x0, x1), x2, x3, x4, x5, x6, (x7, x8), x9, x10, x11, x12, M)) == 5) = true from by rw [show stU L (tUnder ((x0, x1), x2, x3, x4, x5, x6, (x7, x8), x9, x10, x11, x12, M), tAfter ((x0, x1), x2, x3, x4, x5, x6, (x7, x8), x9, x10, x11, x12, M)) = s from HS.out]; exact h5']; rfl)
      clear h5
      go_wp2
      go_ret
      exact ⟨by rw [HE.out]; rfl, HB1.out⟩
    · have h5' : (s == 5) = false := beq_eq_false_iff_ne.2 h5
      have HE := Lib.hid (show iorB L ((x0, x1), x2, x3, x4, x5, x6, (x7, x8), x9, x10, x11, x12, M) = (s == 6) from by unfold iorB; rw [HST.out, show (stU L (tUnder ((x0, x1), x2, x3, x4, x5, x6, (x7, x8), x9, x10, x11, x12, M), tAfter ((x0, x1), x2, x3, x4, x5, x6, (x7, x8), x9, x10, x11, x12, M)) == 5) = false from by rw [show stU L (tUnder ((x0, x1), x2, x3, x4, x5, x6, (x7, x8), x9, x10, x11, x12, M), tAfter ((x0, x1), x2, x3, x4, x5, x6, (x7, x8), x9, x10, x11, x12, M)) = s from HS.out]; exact h5', show stU L (tUnder ((x0, x1), x2, x3, x4, x5, x6, (x7, x8), x9, x10, x11, x12, M), tAfter ((x0, x1), x2, x3, x4, x5, x6, (x7, x8), x9, x10, x11, x12, M)) = s from HS.out]; simp)
      clear h5
      go_wp2
      go_ret
      exact ⟨by rw [HE.out]; rfl, HB1.out⟩
  have h3n : (x11 != 3) = true := by simp [h3]
  have HE := Lib.hid (show iorB L ((x0, x1), x2, x3, x4, x5, x6, (x7, x8), x9, x10, x11, x12, M) = false from by unfold iorB; rw [show (tState ((x0, x1), x2, x3, x4, x5, x6, (x7, x8), x9, x10, x11, x12, M) == 1) = false from by simpa using h1, show (tState ((x0, x1), x2, x3, x4, x5, x6, (x7, x8), x9, x10, x11, x12, M) == 3) = false from by simpa using h3]; rfl)
  clear h1 h3
  go_enter Try.func96, Try.ntmps96
  go_upto_region 1 with fail
  rw [← hwo]
  clear hwo
  go_wp2
  go_ret
  exact ⟨by rw [HE.out]; rfl, HB0.out⟩
theorem become_w {g o : Nat} {st a b : Int} {v : Value} {w : World} (h0 : w.cell? ⟨g, o + 11, none⟩ = some (.int .i64 a)) (h1 : w.cell? ⟨g, o + 12, none⟩ = some (.int .i64 b)) (h2 : w.cell? ⟨g, o + 13, none⟩ = some v) (hs : ∀ j, w.frozen? ⟨g, j, none⟩ = false) :
    Calls Try.prog 97 #[.pointer (some ⟨g, o, none⟩), .int .i64 st] w fun e w' => e = .returned (.tuple #[]) ∧ w' = ((w.setCell ⟨g, o + 11, none⟩ (.int .i64 st)).setCell ⟨g, o + 12, none⟩ (.int .i64 0)).setCell ⟨g, o + 13, none⟩ (.slice none 0 0) := by
  have s0 := hs (o + 11)
  have s1 := hs (o + 12)
  have s2 := hs (o + 13)
  go_enter Try.func97, Try.ntmps97
  go_wp2
  go_end0
  exact ⟨rfl, rfl⟩
theorem gone_cells {w : World} {g o : Nat} {A B C : List Value} (hA : A.length = 11) (hB : B.length = 3) (hC : C.length = 3) (h : CellsAt w g o (A ++ B)) : CellsAt (putCells w g (o + 11) C) g o (A ++ C) := by
  obtain ⟨h1, h2⟩ := CellsAt.app.1 h
  refine CellsAt.app.2 ⟨fun j c hj => ?_, ?_⟩
  · have hj2 := (List.getElem?_eq_some_iff.1 hj).1
    rw [putCells_other g C w (o + 11) (Or.inl (by omega))]
    exact h1 j c hj
  · rw [hA] at h2 ⊢
    refine putCells_cells g C w (o + 11) fun j hj => ?_
    exact ⟨B[j]'(by omega), h2 j _ (List.getElem?_eq_getElem (by omega))⟩
set_option maxRecDepth 100000 in
set_option maxHeartbeats 3200000 in
theorem orph_impl {L : List D_Task} {a : Option Addr} {cap : Nat} {W : World} (hsz : (Sl R_Task).sz L ≤ 1048576) (h : RdSl R_Task W W.heap.size L a cap) :
    Calls Try.prog 44 #[.slice a L.length cap] W (NewS R_Task (orphans L) W) := by
  have hn : L.length ≤ 1048576 := Nat.le_trans (Nat.le_add_right _ _) hsz
  have HSZ := Lib.hid hsz
  have H := Lib.hid h
  clear h hsz
  go_enter Try.func44, Try.ntmps44
  go_wp2_with fail
  refine (tasks_impl H.out).mono ?_
  intro e w1 h
  obtain ⟨rfl, hb⟩ := isB_elim h
  have HB1 := Lib.hid hb
  have HA1 := Lib.hid ((H.out.below R_Task_ok hb).more R_Task_ok hb.size)
  clear h hb
  cases hq : tasksB L with
  | false =>
    have HE := Lib.hid (orphans_no hq)
    clear hq
    go_wp2
    go_ret
    rw [HE.out]
    exact ⟨none, 0, rfl, ⟨Nat.le_refl _, Nat.zero_le _, fun h => absurd h (Nat.lt_irrefl _)⟩, HB1.out⟩
  | true =>
    have HE := Lib.hid (orphans_yes hq)
    have HTR := Lib.hid (tasksB_iff.1 hq)
    have hn96 : L.length ≤ 96 := HTR.out.1
    clear hq
    go_wp2_with fail
    refine (copytasks_w HSZ.out HA1.out).mono ?_
    intro e w2 h
    obtain ⟨ja, jc, rfl, ho, hb⟩ := newS_elim h
    have HO2 := Lib.hid ho
    have HB2 := Lib.hid (HB1.out.trans (hb.mono HB1.out.size))
    have hw12 := HB1.out.size
    clear h ho hb
    go_wp2
    go_loopw [13] (fun i wr => ∃ k : Nat, k ≤ L.length ∧ i = .int .i64 k ∧ Hid (OwSl R_Task wr (Rg w1.heap.size w2.heap.size) (mixT L k) ja jc) ∧ Hid (w2.heap.size ≤ wr.heap.size) ∧ Below W.heap.size W wr) (fun i _ => L.length - (intOf i).toNat)
    case atStart => exact ⟨0, Nat.zero_le _, rfl, Lib.hid (by rw [mixT_zero]; exact HO2.out), Lib.hid (Nat.le_refl _), HB2.out⟩
    case round =>
      obtain ⟨k, hk, rfl, HO, HZ, hB⟩ := hrel
      have HB := Lib.hid hB
      have hsz := hB.size
      by_cases hlt : k < L.length
      · skip
        obtain ⟨⟨⟨x0, x1⟩, x2, x3, x4, x5, x6, ⟨x7, x8⟩, x9, x10, x11, x12, M⟩, hx⟩ := el_some hlt
        have HX := Lib.hid hx
        have HML := Lib.hid (mixT_len hk)
        have HMX := Lib.hid ((mixT_at hk).trans hx)
        obtain ⟨g, Sf, rfl, hrow⟩ := HO.out.row (by rw [mixT_len hk]; omega)
        have HROW := Lib.hid hrow
        obtain ⟨us, hu, hr⟩ := hrow.el k _ HMX.out
        obtain ⟨ba, bc, T5, rfl, hT5, ho5, b_x3⟩ := ow_Task hr
        have hgS := hrow.own
        have e0 : wr.cell? ⟨g, k * 14, none⟩ = some (.int .i64 x0) := by simpa [size_TaskS, Nat.add_assoc] using hu 0 _ rfl
        have e1 : wr.cell? ⟨g, k * 14 + 1, none⟩ = some (.int .i64 x1) := by simpa [size_TaskS, Nat.add_assoc] using hu 1 _ rfl
        have e2 : wr.cell? ⟨g, k * 14 + 2, none⟩ = some (.int .i64 x2) := by simpa [size_TaskS, Nat.add_assoc] using hu 2 _ rfl
        have e3 : wr.cell? ⟨g, k * 14 + 3, none⟩ = some (.string x3) := by simpa [size_TaskS, Nat.add_assoc] using hu 3 _ rfl
        have e4 : wr.cell? ⟨g, k * 14 + 4, none⟩ = some (.int .i64 x4) := by simpa [size_TaskS, Nat.add_assoc] using hu 4 _ rfl
        have e5 : wr.cell? ⟨g, k * 14 + 5, none⟩ = some (.int .i64 x5) := by simpa [size_TaskS, Nat.add_assoc] using hu 5 _ rfl
        have e6 : wr.cell? ⟨g, k * 14 + 6, none⟩ = some (.int .i64 x6) := by simpa [size_TaskS, Nat.add_assoc] using hu 6 _ rfl
        have e7 : wr.cell? ⟨g, k * 14 + 7, none⟩ = some (.int .i64 x7) := by simpa [size_TaskS, Nat.add_assoc] using hu 7 _ rfl
        have e8 : wr.cell? ⟨g, k * 14 + 8, none⟩ = some (.int .i64 x8) := by simpa [size_TaskS, Nat.add_assoc] using hu 8 _ rfl
        have e9 : wr.cell? ⟨g, k * 14 + 9, none⟩ = some (.int .i64 x9) := by simpa [size_TaskS, Nat.add_assoc] using hu 9 _ rfl
        have e10 : wr.cell? ⟨g, k * 14 + 10, none⟩ = some (.int .i64 x10) := by simpa [size_TaskS, Nat.add_assoc] using hu 10 _ rfl
        have e11 : wr.cell? ⟨g, k * 14 + 11, none⟩ = some (.int .i64 x11) := by simpa [size_TaskS, Nat.add_assoc] using hu 11 _ rfl
        have e12 : wr.cell? ⟨g, k * 14 + 12, none⟩ = some (.int .i64 x12) := by simpa [size_TaskS, Nat.add_assoc] using hu 12 _ rfl
        have e13 : wr.cell? ⟨g, k * 14 + 13, none⟩ = some (.slice ba M.length bc) := by simpa [size_TaskS, Nat.add_assoc] using hu 13 _ rfl
        have HU0 := Lib.hid (show CellsAt wr g (k * 14) [.int .i64 x0, .int .i64 x1, .int .i64 x2, .string x3, .int .i64 x4, .int .i64 x5, .int .i64 x6, .int .i64 x7, .int .i64 x8, .int .i64 x9, .int .i64 x10, .int .i64 x11, .int .i64 x12, .slice ba M.length bc] from hu)
        have HX3 := Lib.hid b_x3
        have hi0 : (0 : Int) ≤ (k : Int) := Int.natCast_nonneg _
        have hi1 : (k : Int) < (L.length : Int) := by omega
        obtain ⟨w3, hw3⟩ : ∃ w, w = wr.alloc (.cells #[.int .i64 x0, .int .i64 x1, .int .i64 x2, .string x3, .int .i64 x4, .int .i64 x5, .int .i64 x6, .int .i64 x7, .int .i64 x8, .int .i64 x9, .int .i64 x10, .int .i64 x11, .int .i64 x12, .slice ba M.length bc] 43) := ⟨_, rfl⟩
        have hb3 : Below wr.heap.size wr w3 := by rw [hw3]; exact (Below.refl _ _).alloc (Nat.le_refl _) _
        have HP3 := Lib.hid (show Blk w3 wr.heap.size 43 #[.int .i64 x0, .int .i64 x1, .int .i64 x2, .string x3, .int .i64 x4, .int .i64 x5, .int .i64 x6, .int .i64 x7, .int .i64 x8, .int .i64 x9, .int .i64 x10, .int .i64 x11, .int .i64 x12, .slice ba M.length bc] from by rw [hw3]; exact Blk.new _ _ _)
        have HB3 := Lib.hid hb3
        have HRD := Lib.hid (RdSl.more R_Task_ok ((HO.out.rd R_Task_ok (B := wr.heap.size) (fun q hq => Nat.lt_of_lt_of_le hq.2 HZ.out)).below R_Task_ok hb3) hb3.size)
        have HI9 := Lib.hid (incT_keys (mixT_keys hk) (tasksR_inc HTR.out))
        have HGN := Lib.hid (ior_gon HTR.out hx)
        have hgl : g < wr.heap.size := Nat.lt_of_lt_of_le hgS.2 HZ.out
        clear hB hx hu hr hb3 b_x3 hrow hT5 ho5
        go_upto_region 7 with fail
        rw [← hw3]
        clear hw3
        have q0 := HP3.out.at_ 0 rfl
        have q1 := HP3.out.at_ 1 rfl
        have q2 := HP3.out.at_ 2 rfl
        have q3 := HP3.out.at_ 3 rfl
        have q4 := HP3.out.at_ 4 rfl
        have q5 := HP3.out.at_ 5 rfl
        have q6 := HP3.out.at_ 6 rfl
        have q7 := HP3.out.at_ 7 rfl
        have q8 := HP3.out.at_ 8 rfl
        have q9 := HP3.out.at_ 9 rfl
        have q10 := HP3.out.at_ 10 rfl
        have q11 := HP3.out.at_ 11 rfl
        have q12 := HP3.out.at_ 12 rfl
        have q13 := HP3.out.at_ 13 rfl
        go_wp2_with fail
        refine (isorp_w (L := mixT L k) (x0 := x0) (x1 := x1) (x2 := x2) (x3 := x3) (x4 := x4) (x5 := x5) (x6 := x6) (x7 := x7) (x8 := x8) (x9 := x9) (x10 := x10) (x11 := x11) (x12 := x12) (M := M) (ba := ba) (bc := bc) HML.out (by rw [HML.out]; exact hn) HI9.out HRD.out).mono ?_
        rintro e w4 ⟨rfl, hb⟩
        rw [HGN.out]
        have hb4 : Below wr.heap.size wr w4 := HB3.out.trans (hb.mono HB3.out.size)
        have HB4 := Lib.hid (HB.out.trans (hb4.mono hsz))
        have HZ4 := Lib.hid (Nat.le_trans HZ.out hb4.size)
        have HO4 := Lib.hid (HO.out.keep R_Task_ok fun q hq => hb4.block q (Nat.lt_of_lt_of_le hq.2 HZ.out))
        have HW4 := Lib.hid hb4
        clear q0 q1 q2 q3 q4 q5 q6 q7 q8 q9 q10 q11 q12 q13 hb hb4
        cases hg9 : gonB (orpTo L k) ((x0, x1), x2, x3, x4, x5, x6, (x7, x8), x9, x10, x11, x12, M) with
        | false =>
          have HM := Lib.hid (show mixT L (k + 1) = mixT L k from by rw [mixT_step HX.out, stepO_no hg9]; exact set_same HMX.out)
          clear hg9 e0 e1 e2 e3 e4 e5 e6 e7 e8 e9 e10 e11 e12 e13
          go_wp2
          go_roundw
          case rel => exact ⟨k + 1, by omega, by go_num, Lib.hid (by rw [HM.out]; exact HO4.out), HZ4, HB4.out⟩
          case measure => simp [intOf]; omega
        | true =>
          have HM := Lib.hid (show mixT L (k + 1) = (mixT L k).set k ((x0, x1), x2, x3, x4, x5, x6, (x7, x8), x9, x10, 6, 0, []) from by rw [mixT_step HX.out, stepO_yes hg9]; rfl)
          clear hg9
          have f11 := (HW4.out.cell (p := ⟨g, k * 14 + 11, none⟩) hgl).trans e11
          have f12 := (HW4.out.cell (p := ⟨g, k * 14 + 12, none⟩) hgl).trans e12
          have f13 := (HW4.out.cell (p := ⟨g, k * 14 + 13, none⟩) hgl).trans e13
          have hsf : ∀ j, w4.frozen? ⟨g, j, none⟩ = false := fun j => (HW4.out.frozen (p := ⟨g, j, none⟩) hgl).trans (HROW.out.soft j)
          have HBC := Lib.hid (fun V : World => become_w (g := g) (o := k * 14) (st := 6) f11 f12 f13 hsf)
          obtain ⟨w5, hw5⟩ : ∃ w, w = ((w4.setCell ⟨g, k * 14 + 11, none⟩ (.int .i64 6)).setCell ⟨g, k * 14 + 12, none⟩ (.int .i64 0)).setCell ⟨g, k * 14 + 13, none⟩ (.slice none 0 0) := ⟨_, rfl⟩
          have hw5' : w5 = putCells w4 g (k * 14 + 11) [.int .i64 6, .int .i64 0, .slice none 0 0] := hw5
          have hU : Upd w4 w5 g (k * 14) ((k + 1) * 14) (Sf k) := by
            rw [hw5']
            exact Upd.put w4 (Sf k) ⟨by omega, by show k * 14 + 11 + 3 ≤ _; omega⟩
          have hcs : CellsAt w5 g (k * 14) [.int .i64 x0, .int .i64 x1, .int .i64 x2, .string x3, .int .i64 x4, .int .i64 x5, .int .i64 x6, .int .i64 x7, .int .i64 x8, .int .i64 x9, .int .i64 x10, .int .i64 6, .int .i64 0, .slice none 0 0] := by
            rw [hw5']
            exact gone_cells (A := [.int .i64 x0, .int .i64 x1, .int .i64 x2, .string x3, .int .i64 x4, .int .i64 x5, .int .i64 x6, .int .i64 x7, .int .i64 x8, .int .i64 x9, .int .i64 x10]) (B := [.int .i64 x11, .int .i64 x12, .slice ba M.length bc]) (C := [.int .i64 6, .int .i64 0, .slice none 0 0]) rfl rfl rfl (HU0.out.keep (HW4.out.block g hgl))
          clear hw5'
          have hrow5 := Row.set R_Task_ok (HROW.out.bel R_Task_ok (fun q hq => Nat.lt_of_lt_of_le hq.2 HZ.out) HW4.out) (fun q hq => Nat.lt_of_lt_of_le hq.2 HZ4.out) hU hcs (mkow_Task (x0 := x0) (x1 := x1) (x2 := x2) (x4 := x4) (x5 := x5) (x6 := x6) (x7 := x7) (x8 := x8) (x9 := x9) (x10 := x10) (x11 := 6) (x12 := 0) (L0 := []) (T0 := fun _ => False) (fun q h => h.elim) ⟨Nat.le_refl _, Nat.zero_le _, fun h => absurd h (Nat.lt_irrefl _)⟩ HX3.out)
          have HO5 := Lib.hid (show OwSl R_Task w5 (Rg w1.heap.size w2.heap.size) (mixT L (k + 1)) (some ⟨g, 0, none⟩) jc from by
            rw [HM.out]
            exact hrow5.slice (by rw [List.length_set, HML.out]; have := HO.out.1; rw [HML.out] at this; exact this) HO.out.2.1)
          have HZ5 := Lib.hid (show w2.heap.size ≤ w5.heap.size from by rw [hw5]; simpa [World.setCell] using HZ4.out)
          have HB5 := Lib.hid (show Below W.heap.size W w5 from by
            rw [hw5]
            have hg0 : W.heap.size ≤ g := Nat.le_trans hw12 hgS.1
            exact ((HB4.out.setCell (p := ⟨g, k * 14 + 11, none⟩) hg0 _).setCell (p := ⟨g, k * 14 + 12, none⟩) hg0 _).setCell (p := ⟨g, k * 14 + 13, none⟩) hg0 _)
          clear hU hcs hrow5 e0 e1 e2 e3 e4 e5 e6 e7 e8 e9 e10 e11 e12 e13 f11 f12 f13
          go_wp2_with fail
          refine (HBC.out w4).mono ?_
          rintro e w6 ⟨rfl, hw6⟩
          rw [← hw5] at hw6
          subst hw6
          clear hw5 hsf
          go_wp2
          go_roundw
          case rel => exact ⟨k + 1, by omega, by go_num, HO5, HZ5, HB5.out⟩
          case measure => simp [intOf]; omega
      · have hdl : decide ((k : Int) < (L.length : Int)) = false := decide_eq_false (by omega)
        obtain rfl : k = L.length := by omega
        have HO9 := Lib.hid (show OwSl R_Task wr (Rg W.heap.size wr.heap.size) (orpTo L L.length) ja jc from by
          have h := HO.out
          rw [mixT_end] at h
          exact h.more fun q hq => ⟨Nat.le_trans hw12 hq.1, Nat.lt_of_lt_of_le hq.2 HZ.out⟩)
        have HL9 := Lib.hid (orpTo_len (L := L) (Nat.le_refl _))
        clear hB
        go_wp2
        go_ret
        rw [HE.out]
        exact ⟨ja, jc, by rw [HL9.out]; rfl, HO9.out, HB.out⟩
end Go.Proofs.Ytkghodbbgehcoaa.RepC
end
section
namespace Go.Proofs.Ytkghodbbgehcoaa.RepC
open Go.RowKit RowC ValC SpanC KeptC
set_option linter.unusedVariables false
set_option linter.unusedSimpArgs false
theorem gorph_spec {L : List D_Task} {v : Value} {W : World} (hsz : (Sl R_Task).sz L ≤ 1048576) (h : (Sl R_Task).rd W W.heap.size L [v]) : Calls Try.prog 43 #[v] W (NewS R_Task (orphans L) W) := by
  obtain ⟨al, cap, he, k⟩ := h; cases he
  exact orph_spec hsz k
theorem gorph_impl {L : List D_Task} {v : Value} {W : World} (hsz : (Sl R_Task).sz L ≤ 1048576) (h : (Sl R_Task).rd W W.heap.size L [v]) : Calls Try.prog 44 #[v] W (NewS R_Task (orphans L) W) := by
  obtain ⟨al, cap, he, k⟩ := h; cases he
  exact orph_impl hsz k
theorem stepO_sz (out : List D_Task) (x : D_Task) : R_Task.sz (stepO out x) ≤ R_Task.sz x := by
  unfold stepO
  split
  · rw [sz_task, sz_task]
    show (tOwner x).size + 0 ≤ _
    omega
  · exact Nat.le_refl _
theorem orpTo_sz (L : List D_Task) : ∀ k, k ≤ L.length → sumL R_Task.sz (orpTo L k) ≤ sumL R_Task.sz (L.take k)
  | 0, _ => by simp [orpTo, sumL]
  | k + 1, hk => by
    obtain ⟨x, hx⟩ : ∃ x, L[k]? = some x := ⟨L[k], List.getElem?_eq_getElem (by omega)⟩
    have h1 := orpTo_sz L k (by omega)
    have h2 := stepO_sz (orpTo L k) x
    rw [orpTo_step hx, sumL_app, sumL_one, sumL_take R_Task.sz hx]
    omega
theorem orph_small {L d : List D_Task} (hsz : (Sl R_Task).sz L ≤ 1048576) (hd : orphans L = d) : (Sl R_Task).cv d ≤ 33554432 := by
  rw [← hd]
  have e2 : (Sl R_Task).sz L = L.length + sumL R_Task.sz L := rfl
  unfold orphans
  split
  · apply cvs_TaskS
    have h1 := orpTo_sz L L.length (Nat.le_refl _)
    rw [List.take_length] at h1
    show (orpTo L L.length).length + sumL R_Task.sz (orpTo L L.length) ≤ _
    rw [orpTo_len (Nat.le_refl _)]
    omega
  · exact Nat.zero_le _
end Go.Proofs.Ytkghodbbgehcoaa.RepC
end
section
namespace Go.Proofs.Ytkghodbbgehcoaa.RepC
open Go.RowKit RowC ValC SpanC KeptC
set_option linter.unusedVariables false
set_option linter.unusedSimpArgs false
set_option maxRecDepth 100000 in
set_option maxHeartbeats 4000000 in
theorem law_orphans {L : List (D_Task)} {La : Option Addr} {Lc : Nat} {W : World} (hL : (Sl R_Task).rd W W.heap.size L [.slice La L.length Lc]) :
    Calls Try.prog 9 #[.slice La L.length Lc] W fun e w' => e = .returned (.bool true) ∧ Below W.heap.size W w' := by
  have HL := Lib.hid hL
  have HL0 := Lib.hid hL
  clear hL
  by_cases hsz : (Sl R_Task).sz L ≤ 1048576
  rotate_left
  · skip
    go_enter Try.func9, Try.ntmps9
    go_wp2_with fail
    refine (gsz_TaskS (by omega) (by omega) HL.out).mono ?_
    intro e w1 h
    obtain ⟨rfl, hb⟩ := szC_elim h
    rw [szR_no (by omega)]
    have HL_1 := Lib.hid (gmv (Sl_ok R_Task_ok) HL.out hb)
    have HB1 := Lib.hid (show Below W.heap.size W (w1) from hb)
    have HZ1 := Lib.hid ((hb).size)
    clear HL
    clear h hb
    go_wp2
    go_ret
    exact ⟨rfl, HB1.out⟩
  have HSZL := Lib.hid hsz
  have HSAL := Lib.hid (cvs_TaskS hsz)
  obtain ⟨m, hm⟩ : ∃ m : Nat, (Sl R_Task).sz L = m := ⟨_, rfl⟩
  have HM := Lib.hid hm
  rw [hm] at hsz
  clear hm
  have hlt1 : decide ((1048576 : Int) - (m : Int) < 0) = false := decide_eq_false (by omega)
  obtain ⟨dR, hD⟩ : ∃ d, orphans L = d := ⟨_, rfl⟩
  have HDD := Lib.hid hD
  have HSM := Lib.hid (orph_small HSZL.out hD)
  clear hD
  go_enter Try.func9, Try.ntmps9
  go_wp2_with fail
  refine (gsz_TaskS (by omega) (by omega) HL.out).mono ?_
  intro e w1 h
  obtain ⟨rfl, hb⟩ := szC_elim h
  rw [HM.out, szR_yes (by omega)]
  have HL_1 := Lib.hid (gmv (Sl_ok R_Task_ok) HL.out hb)
  have HB1 := Lib.hid (show Below W.heap.size W (w1) from hb)
  have HZ1 := Lib.hid ((hb).size)
  clear HL
  clear hsz
  clear h hb
  go_wp2_with fail
  refine (gto_TaskS HSZL.out HL_1.out).mono ?_
  intro e w2 h
  obtain ⟨aL2, cL2, rfl, hu, hb⟩ := newS_elim2 h
  have HL_2 := Lib.hid (gmv (Sl_ok R_Task_ok) HL_1.out hb)
  have HB2 := Lib.hid (HB1.out.trans ((hb).mono HB1.out.size))
  have HZ2 := Lib.hid ((hb).size)
  clear HL_1 HB1
  have NL_2 := Lib.hid (owG_new hu)
  clear hu
  clear h hb
  go_wp2_with fail
  refine (gorph_spec HSZL.out (NL_2.out.rd (Sl_ok R_Task_ok))).mono ?_
  intro e w3 h
  rw [HDD.out] at h
  obtain ⟨raw, rcw, rfl, hu, hb⟩ := newS_elim2 h
  have HL_3 := Lib.hid (gmv (Sl_ok R_Task_ok) HL_2.out hb)
  have NL_3 := Lib.hid (NL_2.out.mv (Sl_ok R_Task_ok) hb)
  have HB3 := Lib.hid (HB2.out.trans ((hb).mono HB2.out.size))
  have HZ3 := Lib.hid ((hb).size)
  clear HL_2 NL_2 HB2
  have Yw_3 := Lib.hid (owG_new hu)
  have HSw := Lib.hid (fun k (hk : Rg w2.heap.size w3.heap.size k) => hk)
  clear hu
  clear h hb
  clear NL_3
  go_wp2_with fail
  refine (gto_TaskS HSZL.out HL_3.out).mono ?_
  intro e w4 h
  obtain ⟨aL4, cL4, rfl, hu, hb⟩ := newS_elim2 h
  have HL_4 := Lib.hid (gmv (Sl_ok R_Task_ok) HL_3.out hb)
  have Yw_4 := Lib.hid (Yw_3.out.mv (Sl_ok R_Task_ok) hb)
  have HB4 := Lib.hid (HB3.out.trans ((hb).mono HB3.out.size))
  have HZ4 := Lib.hid ((hb).size)
  clear HL_3 Yw_3 HB3
  have X_4 := Lib.hid (owG_new hu)
  have HSX := Lib.hid (fun k (hk : Rg w3.heap.size w4.heap.size k) => hk)
  clear hu
  clear h hb
  go_wp2_with fail
  refine (gorph_impl HSZL.out (X_4.out.rd (Sl_ok R_Task_ok))).mono ?_
  intro e w5 h
  rw [HDD.out] at h
  obtain ⟨rag, rcg, rfl, hu, hb⟩ := newS_elim2 h
  have HL_5 := Lib.hid (gmv (Sl_ok R_Task_ok) HL_4.out hb)
  have Yw_5 := Lib.hid (Yw_4.out.mv (Sl_ok R_Task_ok) hb)
  have X_5 := Lib.hid (X_4.out.mv (Sl_ok R_Task_ok) hb)
  have HB5 := Lib.hid (HB4.out.trans ((hb).mono HB4.out.size))
  have HZ5 := Lib.hid ((hb).size)
  clear HL_4 Yw_4 X_4 HB4
  have Yg_5 := Lib.hid (owG_new hu)
  have HSg := Lib.hid (fun k (hk : Rg w4.heap.size w5.heap.size k) => hk)
  clear hu
  clear h hb
  go_wp2_with fail
  refine (geq_TaskS (Yg_5.out.rd (Sl_ok R_Task_ok)) (Yw_5.out.rd (Sl_ok R_Task_ok))).mono ?_
  intro e w6 h
  obtain ⟨rfl, hb⟩ := isB_elim h
  have HL_6 := Lib.hid (gmv (Sl_ok R_Task_ok) HL_5.out hb)
  have Yw_6 := Lib.hid (Yw_5.out.mv (Sl_ok R_Task_ok) hb)
  have X_6 := Lib.hid (X_5.out.mv (Sl_ok R_Task_ok) hb)
  have Yg_6 := Lib.hid (Yg_5.out.mv (Sl_ok R_Task_ok) hb)
  have HB6 := Lib.hid (HB5.out.trans ((hb).mono HB5.out.size))
  have HZ6 := Lib.hid ((hb).size)
  clear HL_5 Yw_5 X_5 Yg_5 HB5
  clear h hb
  go_wp2_with fail
  refine (gto_TaskS HSZL.out HL_6.out).mono ?_
  intro e w7 h
  obtain ⟨aL7, cL7, rfl, hu, hb⟩ := newS_elim2 h
  have HL_7 := Lib.hid (gmv (Sl_ok R_Task_ok) HL_6.out hb)
  have Yw_7 := Lib.hid (Yw_6.out.mv (Sl_ok R_Task_ok) hb)
  have X_7 := Lib.hid (X_6.out.mv (Sl_ok R_Task_ok) hb)
  have Yg_7 := Lib.hid (Yg_6.out.mv (Sl_ok R_Task_ok) hb)
  have HB7 := Lib.hid (HB6.out.trans ((hb).mono HB6.out.size))
  have HZ7 := Lib.hid ((hb).size)
  clear HL_6 Yw_6 X_6 Yg_6 HB6
  have NL_7 := Lib.hid (owG_new hu)
  clear hu
  clear h hb
  go_wp2_with fail
  refine (geq_TaskS (X_7.out.rd (Sl_ok R_Task_ok)) (NL_7.out.rd (Sl_ok R_Task_ok))).mono ?_
  intro e w8 h
  obtain ⟨rfl, hb⟩ := isB_elim h
  have HL_8 := Lib.hid (gmv (Sl_ok R_Task_ok) HL_7.out hb)
  have Yw_8 := Lib.hid (Yw_7.out.mv (Sl_ok R_Task_ok) hb)
  have X_8 := Lib.hid (X_7.out.mv (Sl_ok R_Task_ok) hb)
  have Yg_8 := Lib.hid (Yg_7.out.mv (Sl_ok R_Task_ok) hb)
  have NL_8 := Lib.hid (NL_7.out.mv (Sl_ok R_Task_ok) hb)
  have HB8 := Lib.hid (HB7.out.trans ((hb).mono HB7.out.size))
  have HZ8 := Lib.hid ((hb).size)
  clear HL_7 Yw_7 X_7 Yg_7 NL_7 HB7
  clear h hb
  clear NL_8
  go_wp2_with fail
  refine (gmark_TaskS (by omega) (by have h1 := HSAL.out; omega) X_8.out.2 X_8.out.1).mono ?_
  intro e wm h
  obtain ⟨dM, y1, rfl, hmv, hzz, ho, hoff⟩ := markG_elim h
  have HB9 := Lib.hid (HB8.out.trans (hoff.below HB8.out.size (fun k hk => by have zHZ1 := HZ1.out; have zHZ2 := HZ2.out; have zHZ3 := HZ3.out; have zHZ4 := HZ4.out; have zHZ5 := HZ5.out; have zHZ6 := HZ6.out; have zHZ7 := HZ7.out; have zHZ8 := HZ8.out; have rX := HSX.out _ hk; try unfold Rg at rX; omega)))
  have HL_9 := Lib.hid (gmv (Sl_ok R_Task_ok) HL0.out HB9.out)
  have Yw_9 := Lib.hid (Yw_8.out.off (Sl_ok R_Task_ok) hoff (fun k hk hk2 => by have zHZ1 := HZ1.out; have zHZ2 := HZ2.out; have zHZ3 := HZ3.out; have zHZ4 := HZ4.out; have zHZ5 := HZ5.out; have zHZ6 := HZ6.out; have zHZ7 := HZ7.out; have zHZ8 := HZ8.out; have rX := HSX.out k hk2; try unfold Rg at rX; have rw := HSw.out k hk; try unfold Rg at rw; omega))
  have Yg_9 := Lib.hid (Yg_8.out.off (Sl_ok R_Task_ok) hoff (fun k hk hk2 => by have zHZ1 := HZ1.out; have zHZ2 := HZ2.out; have zHZ3 := HZ3.out; have zHZ4 := HZ4.out; have zHZ5 := HZ5.out; have zHZ6 := HZ6.out; have zHZ7 := HZ7.out; have zHZ8 := HZ8.out; have rX := HSX.out k hk2; try unfold Rg at rX; have rg := HSg.out k hk; try unfold Rg at rg; omega))
  have hkn : decide (y1 < 0) = false := decide_eq_false (by omega)
  have HZ9 := Lib.hid (hoff.size)
  clear h hmv hzz ho hoff
  go_wp2_with fail
  refine (geq_TaskS (Yg_9.out.rd (Sl_ok R_Task_ok)) (Yw_9.out.rd (Sl_ok R_Task_ok))).mono ?_
  intro e w10 h
  obtain ⟨rfl, hb⟩ := isB_elim h
  have HL_10 := Lib.hid (gmv (Sl_ok R_Task_ok) HL_9.out hb)
  have Yw_10 := Lib.hid (Yw_9.out.mv (Sl_ok R_Task_ok) hb)
  have Yg_10 := Lib.hid (Yg_9.out.mv (Sl_ok R_Task_ok) hb)
  have HB10 := Lib.hid (HB9.out.trans ((hb).mono HB9.out.size))
  have HZ10 := Lib.hid ((hb).size)
  clear HL_9 Yw_9 Yg_9 HB9
  clear h hb
  clear hkn
  go_wp2_with fail
  refine (gmark_TaskS (by omega) (by have h1 := HSM.out; omega) Yg_10.out.2 Yg_10.out.1).mono ?_
  intro e wn h
  obtain ⟨dN, zN, rfl, hmv, hzz, ho, hoff⟩ := markG_elim h
  have HB11 := Lib.hid (HB10.out.trans (hoff.below HB10.out.size (fun k hk => by have zHZ1 := HZ1.out; have zHZ2 := HZ2.out; have zHZ3 := HZ3.out; have zHZ4 := HZ4.out; have zHZ5 := HZ5.out; have zHZ6 := HZ6.out; have zHZ7 := HZ7.out; have zHZ8 := HZ8.out; have zHZ9 := HZ9.out; have zHZ10 := HZ10.out; have rg := HSg.out _ hk; try unfold Rg at rg; omega)))
  have HL_11 := Lib.hid (gmv (Sl_ok R_Task_ok) HL0.out HB11.out)
  have Yw_11 := Lib.hid (Yw_10.out.off (Sl_ok R_Task_ok) hoff (fun k hk hk2 => by have zHZ1 := HZ1.out; have zHZ2 := HZ2.out; have zHZ3 := HZ3.out; have zHZ4 := HZ4.out; have zHZ5 := HZ5.out; have zHZ6 := HZ6.out; have zHZ7 := HZ7.out; have zHZ8 := HZ8.out; have zHZ9 := HZ9.out; have zHZ10 := HZ10.out; have rg := HSg.out k hk2; try unfold Rg at rg; have rw := HSw.out k hk; try unfold Rg at rw; omega))
  have Yg_11 := Lib.hid (show OwG (Sl R_Task) wn _ dN _ from ⟨ho, fun k hk => Nat.lt_of_lt_of_le (Yg_10.out.2 k hk) hoff.size⟩)
  have HMV := Lib.hid hmv
  have hzn : decide (zN < 0) = false := decide_eq_false (by omega)
  have hze : (zN != zN) = false := by simp
  have hzb : zN ≤ 4611686018427387904 := by have := HSM.out; omega
  have HZ11 := Lib.hid (hoff.size)
  clear h hmv hzz ho hoff
  go_wp2_with fail
  refine (gheld_TaskS (by omega) hzb HMV.out (Yg_11.out.rd (Sl_ok R_Task_ok))).mono ?_
  intro e w12 h
  obtain ⟨rfl, hb⟩ := heldC_elim h
  have HL_12 := Lib.hid (gmv (Sl_ok R_Task_ok) HL_11.out hb)
  have Yw_12 := Lib.hid (Yw_11.out.mv (Sl_ok R_Task_ok) hb)
  have Yg_12 := Lib.hid (Yg_11.out.mv (Sl_ok R_Task_ok) hb)
  have HB12 := Lib.hid (HB11.out.trans ((hb).mono HB11.out.size))
  have HZ12 := Lib.hid ((hb).size)
  clear HL_11 Yw_11 Yg_11 HB11
  clear h hb
  go_wp2_with fail
  refine (gto_TaskS HSZL.out HL_12.out).mono ?_
  intro e w13 h
  obtain ⟨aL13, cL13, rfl, hu, hb⟩ := newS_elim2 h
  have HL_13 := Lib.hid (gmv (Sl_ok R_Task_ok) HL_12.out hb)
  have Yw_13 := Lib.hid (Yw_12.out.mv (Sl_ok R_Task_ok) hb)
  have Yg_13 := Lib.hid (Yg_12.out.mv (Sl_ok R_Task_ok) hb)
  have HB13 := Lib.hid (HB12.out.trans ((hb).mono HB12.out.size))
  have HZ13 := Lib.hid ((hb).size)
  clear HL_12 Yw_12 Yg_12 HB12
  have NL_13 := Lib.hid (owG_new hu)
  clear hu
  clear h hb
  go_wp2_with fail
  refine (gorph_impl HSZL.out (NL_13.out.rd (Sl_ok R_Task_ok))).mono ?_
  intro e w14 h
  rw [HDD.out] at h
  obtain ⟨rah, rch, rfl, hu, hb⟩ := newS_elim2 h
  have HL_14 := Lib.hid (gmv (Sl_ok R_Task_ok) HL_13.out hb)
  have Yw_14 := Lib.hid (Yw_13.out.mv (Sl_ok R_Task_ok) hb)
  have Yg_14 := Lib.hid (Yg_13.out.mv (Sl_ok R_Task_ok) hb)
  have NL_14 := Lib.hid (NL_13.out.mv (Sl_ok R_Task_ok) hb)
  have HB14 := Lib.hid (HB13.out.trans ((hb).mono HB13.out.size))
  have HZ14 := Lib.hid ((hb).size)
  clear HL_13 Yw_13 Yg_13 NL_13 HB13
  have Yh_14 := Lib.hid (owG_new hu)
  have HSh := Lib.hid (fun k (hk : Rg w13.heap.size w14.heap.size k) => hk)
  clear hu
  clear h hb
  clear NL_14
  go_wp2_with fail
  refine (geq_TaskS (Yh_14.out.rd (Sl_ok R_Task_ok)) (Yw_14.out.rd (Sl_ok R_Task_ok))).mono ?_
  intro e w15 h
  obtain ⟨rfl, hb⟩ := isB_elim h
  have HL_15 := Lib.hid (gmv (Sl_ok R_Task_ok) HL_14.out hb)
  have Yw_15 := Lib.hid (Yw_14.out.mv (Sl_ok R_Task_ok) hb)
  have Yg_15 := Lib.hid (Yg_14.out.mv (Sl_ok R_Task_ok) hb)
  have Yh_15 := Lib.hid (Yh_14.out.mv (Sl_ok R_Task_ok) hb)
  have HB15 := Lib.hid (HB14.out.trans ((hb).mono HB14.out.size))
  have HZ15 := Lib.hid ((hb).size)
  clear HL_14 Yw_14 Yg_14 Yh_14 HB14
  clear h hb
  go_wp2_with fail
  refine (gheld_TaskS (by omega) hzb HMV.out (Yg_15.out.rd (Sl_ok R_Task_ok))).mono ?_
  intro e w16 h
  obtain ⟨rfl, hb⟩ := heldC_elim h
  have HL_16 := Lib.hid (gmv (Sl_ok R_Task_ok) HL_15.out hb)
  have Yw_16 := Lib.hid (Yw_15.out.mv (Sl_ok R_Task_ok) hb)
  have Yg_16 := Lib.hid (Yg_15.out.mv (Sl_ok R_Task_ok) hb)
  have Yh_16 := Lib.hid (Yh_15.out.mv (Sl_ok R_Task_ok) hb)
  have HB16 := Lib.hid (HB15.out.trans ((hb).mono HB15.out.size))
  have HZ16 := Lib.hid ((hb).size)
  clear HL_15 Yw_15 Yg_15 Yh_15 HB15
  clear h hb
  go_wp2
  go_ret
  exact ⟨rfl, HB16.out⟩
end Go.Proofs.Ytkghodbbgehcoaa.RepC
end
