/- Of this claim's texts the part 20: MlN. -/
import Derived.Test.YtlgflddljhldhaaPN19
section
namespace Go.Proofs.Ytlgflddljhldhaa.RepC
open Go.RowKit RowC ValC SpanC KeptC CfC
set_option linter.unusedVariables false
set_option linter.unusedSimpArgs false
noncomputable def newMl : D_Config → D_Mail
  | (C, P, Q, hf) => if cfgB C P Q hf = true then List.replicate P.length ([], [], []) else []
theorem newMl_yes {C : List (List D_Label)} {P : List D_Pair} {Q : List D_Quota} {hf : Int} (h : cfgB C P Q hf = true) : newMl (C, P, Q, hf) = List.replicate P.length ([], [], []) := if_pos h
theorem newMl_no {C : List (List D_Label)} {P : List D_Pair} {Q : List D_Quota} {hf : Int} (h : cfgB C P Q hf = false) : newMl (C, P, Q, hf) = [] := if_neg (by rw [h]; decide)
theorem empty_ow {α : Type} {E : Rp α} {W : World} {S : Nat → Prop} : OwSl E W S ([] : List α) none 0 := ⟨Nat.le_refl _, by unfold maxLen; omega, fun h => absurd h (Nat.lt_irrefl _)⟩
theorem boxes_new {w w' : World} {g n : Nat} (hb : Blk w' g 58 (zs_BoxS n)) {S : Nat → Prop} (hS : S g) (hn : n ≤ 1048576) : OwSl R_Box w' S (List.replicate n ([], [], [])) (some ⟨g, 0, none⟩) n := by
  refine ⟨by simp, by unfold maxLen; omega, fun _ => ⟨g, fun _ _ => False, rfl, hS, fun j => hb.soft j, fun i k h => h.elim, fun i j k _ h => h.elim, fun i x hx => ?_⟩⟩
  have hi := el_lt hx
  rw [List.length_replicate] at hi
  obtain rfl : x = ([], [], []) := by rw [List.getElem?_replicate, if_pos hi] at hx; exact (Option.some.inj hx).symm
  have e : ∀ j, j < n * 3 → (zs_BoxS n)[j]? = some (.slice none 0 0) := fun j hj => by
    unfold zs_BoxS madeCells
    rcases (show j % 3 = 0 ∨ j % 3 = 1 ∨ j % 3 = 2 by omega) with h | h | h <;> simp [hj, h]
  refine ⟨[.slice none 0 0, .slice none 0 0, .slice none 0 0], fun j d hd => ?_, mkow_Box (L0 := []) (L1 := []) (L2 := []) (T0 := fun _ => False) (T1 := fun _ => False) (T2 := fun _ => False) (fun k h => h.elim) (fun k h => h.elim) (fun k h => h.elim) (fun k h => h.elim) (fun k h => h.elim) (fun k h => h.elim) empty_ow empty_ow empty_ow⟩
  rw [size_BoxS]
  match j, hd with
  | 0, hd => simp at hd; subst hd; exact hb.at_ (i * 3) (e _ (by omega))
  | 1, hd => simp at hd; subst hd; exact hb.at_ (i * 3 + 1) (e _ (by omega))
  | 2, hd => simp at hd; subst hd; exact hb.at_ (i * 3 + 2) (e _ (by omega))
  | j + 3, hd => simp at hd
set_option maxRecDepth 100000 in
set_option maxHeartbeats 3200000 in
theorem mnew_spec {C : List (List D_Label)} {P : List D_Pair} {Q : List D_Quota} {hf : Int} {ca pa qa : Option Addr} {cc pc qc : Nat} {W : World} (hC : RdSl (Sl R_Label) W W.heap.size C ca cc) (hP : RdSl R_Pair W W.heap.size P pa pc) (hQ : RdSl R_Quota W W.heap.size Q qa qc) :
    Calls Try.prog 13 #[.agg #[.slice ca C.length cc, .slice pa P.length pc, .slice qa Q.length qc, .int .i64 hf]] W (NewV R_Mail (newMl (C, P, Q, hf)) W) := by
  obtain ⟨b0, hb0⟩ : ∃ b, cfgB C P Q hf = b := ⟨_, rfl⟩
  have Hb0 := Lib.hid hb0
  clear hb0
  obtain ⟨w0, hw0⟩ : ∃ w, w = (W.alloc (.cells #[.slice ca C.length cc, .slice pa P.length pc, .slice qa Q.length qc, .int .i64 hf] 37)).alloc (.cells #[.slice none 0 0] 41) := ⟨_, rfl⟩
  have hb0 : Below W.heap.size W w0 := by rw [hw0]; exact ((Below.refl _ _).alloc (Nat.le_refl _) _).alloc (by simp) _
  have x0_ : Blk w0 (W.heap.size) 37 #[.slice ca C.length cc, .slice pa P.length pc, .slice qa Q.length qc, .int .i64 hf] := by
    have h9 := Blk.new W 37 #[.slice ca C.length cc, .slice pa P.length pc, .slice qa Q.length qc, .int .i64 hf]
    try simp only [World.size_alloc] at h9
    rw [hw0]; exact (h9.alloc _)
  have X0 := Lib.hid x0_
  have x1_ : Blk w0 (W.heap.size + 1) 41 #[.slice none 0 0] := by
    have h9 := Blk.new (W.alloc (.cells #[.slice ca C.length cc, .slice pa P.length pc, .slice qa Q.length qc, .int .i64 hf] 37)) 41 #[.slice none 0 0]
    try simp only [World.size_alloc] at h9
    rw [hw0]; exact h9
  have X1 := Lib.hid x1_
  have HC := Lib.hid (rd_mv (Sl_ok R_Label_ok) hC hb0)
  have HP := Lib.hid (rd_mv R_Pair_ok hP hb0)
  have HQ := Lib.hid (rd_mv R_Quota_ok hQ hb0)
  have HB0 := Lib.hid hb0
  have hz0 := hb0.size
  clear hb0 hC hP hQ x0_ x1_
  go_enter Try.func13, Try.ntmps13
  go_upto_region 1 with fail
  rw [← hw0]
  clear hw0
  have qX0_0 := X0.out.at_ 0 rfl
  have qX0_1 := X0.out.at_ 1 rfl
  have qX0_2 := X0.out.at_ 2 rfl
  have qX0_3 := X0.out.at_ 3 rfl
  have qX1_0 := X1.out.at_ 0 rfl
  go_wp2_with fail
  have hcx := config_spec (hf := hf) HC.out HP.out HQ.out
  rw [Hb0.out] at hcx
  refine hcx.mono ?_
  intro e v1 h
  obtain ⟨rfl, hb⟩ := isB_elim h
  have HC := Lib.hid (rd_mv (Sl_ok R_Label_ok) HC.out hb)
  have HP := Lib.hid (rd_mv R_Pair_ok HP.out hb)
  have HQ := Lib.hid (rd_mv R_Quota_ok HQ.out hb)
  have X0 := Lib.hid (X0.out.call hb)
  have X1 := Lib.hid (X1.out.call hb)
  have HB0 := Lib.hid (HB0.out.trans (hb.mono HB0.out.size))
  clear h hb hcx qX0_0 qX0_1 qX0_2 qX0_3 qX1_0
  have qX0_0 := X0.out.at_ 0 rfl
  have qX0_1 := X0.out.at_ 1 rfl
  have qX0_2 := X0.out.at_ 2 rfl
  have qX0_3 := X0.out.at_ 3 rfl
  have qX1_0 := X1.out.at_ 0 rfl
  have s0 := X1.out.soft 0
  have hlt1 : W.heap.size + 1 < v1.heap.size := X1.out.lt
  cases b0 with
  | false =>
    have HN := Lib.hid (newMl_no Hb0.out)
    go_wp2
    refine bodyPost_ret (v := .agg #[.slice none 0 0]) (by simp [results, Try.results13, go_sem, *]) rfl ⟨[.slice none 0 0], rfl, ?_, HB0.out.setCell (p := ⟨W.heap.size + 1, 0, none⟩) (by show W.heap.size ≤ W.heap.size + 1; omega) _⟩
    rw [HN.out]
    exact mkow_Mail (T0 := fun _ => False) (fun k h => h.elim) empty_ow
  | true =>
    have HN := Lib.hid (newMl_yes Hb0.out)
    have HCF := Lib.hid (cfgB_iff.1 Hb0.out)
    have h4 : P.length ≤ 1048576 := Nat.le_trans HCF.out.2.2.2.1.1 (by omega)
    have hmk := make_BoxS P.length h4
    go_wp2
    have hsz := HB0.out.size
    have hbk := Blk.new (v1.setCell ⟨W.heap.size + 1, 0, none⟩ (.slice (some ⟨v1.heap.size, 0, none⟩) P.length P.length)) 58 (zs_BoxS P.length)
    have hss : (v1.setCell ⟨W.heap.size + 1, 0, none⟩ (.slice (some ⟨v1.heap.size, 0, none⟩) P.length P.length)).heap.size = v1.heap.size := by simp [World.setCell]
    rw [hss] at hbk
    have ho := boxes_new (w := v1) (S := fun k => k = v1.heap.size) hbk rfl h4
    have hbl := (HB0.out.setCell (p := ⟨W.heap.size + 1, 0, none⟩) (by show W.heap.size ≤ W.heap.size + 1; omega) (.slice (some ⟨v1.heap.size, 0, none⟩) P.length P.length)).alloc (by rw [hss]; exact hsz) (.cells (zs_BoxS P.length) 58)
    have hmm := mkow_Mail (S := Rg W.heap.size (v1.heap.size + 1)) (T0 := fun k => k = v1.heap.size) (fun k hk => by subst hk; exact ⟨hsz, Nat.lt_succ_self _⟩) ho
    simp only [List.length_replicate] at hmm
    refine bodyPost_ret (v := .agg #[.slice (some ⟨v1.heap.size, 0, none⟩) P.length P.length]) (by simp [results, Try.results13, go_sem, *]) rfl ⟨[.slice (some ⟨v1.heap.size, 0, none⟩) P.length P.length], rfl, ?_, hbl⟩
    rw [HN.out, World.size_alloc, hss]
    exact hmm
set_option maxRecDepth 100000 in
set_option maxHeartbeats 3200000 in
theorem mnew_impl {C : List (List D_Label)} {P : List D_Pair} {Q : List D_Quota} {hf : Int} {ca pa qa : Option Addr} {cc pc qc : Nat} {W : World} (hC : RdSl (Sl R_Label) W W.heap.size C ca cc) (hP : RdSl R_Pair W W.heap.size P pa pc) (hQ : RdSl R_Quota W W.heap.size Q qa qc) :
    Calls Try.prog 14 #[.agg #[.slice ca C.length cc, .slice pa P.length pc, .slice qa Q.length qc, .int .i64 hf]] W (NewV R_Mail (newMl (C, P, Q, hf)) W) := by
  obtain ⟨b0, hb0⟩ : ∃ b, cfgB C P Q hf = b := ⟨_, rfl⟩
  have Hb0 := Lib.hid hb0
  clear hb0
  obtain ⟨w0, hw0⟩ : ∃ w, w = (W.alloc (.cells #[.slice ca C.length cc, .slice pa P.length pc, .slice qa Q.length qc, .int .i64 hf] 37)).alloc (.cells #[.slice none 0 0] 41) := ⟨_, rfl⟩
  have hb0 : Below W.heap.size W w0 := by rw [hw0]; exact ((Below.refl _ _).alloc (Nat.le_refl _) _).alloc (by simp) _
  have x0_ : Blk w0 (W.heap.size) 37 #[.slice ca C.length cc, .slice pa P.length pc, .slice qa Q.length qc, .int .i64 hf] := by
    have h9 := Blk.new W 37 #[.slice ca C.length cc, .slice pa P.length pc, .slice qa Q.length qc, .int .i64 hf]
    try simp only [World.size_alloc] at h9
    rw [hw0]; exact (h9.alloc _)
  have X0 := Lib.hid x0_
  have x1_ : Blk w0 (W.heap.size + 1) 41 #[.slice none 0 0] := by
    have h9 := Blk.new (W.alloc (.cells #[.slice ca C.length cc, .slice pa P.length pc, .slice qa Q.length qc, .int .i64 hf] 37)) 41 #[.slice none 0 0]
    try simp only [World.size_alloc] at h9
    rw [hw0]; exact h9
  have X1 := Lib.hid x1_
  have HC := Lib.hid (rd_mv (Sl_ok R_Label_ok) hC hb0)
  have HP := Lib.hid (rd_mv R_Pair_ok hP hb0)
  have HQ := Lib.hid (rd_mv R_Quota_ok hQ hb0)
  have HB0 := Lib.hid hb0
  have hz0 := hb0.size
  clear hb0 hC hP hQ x0_ x1_
  go_enter Try.func14, Try.ntmps14
  go_upto_region 1 with fail
  rw [← hw0]
  clear hw0
  have qX0_0 := X0.out.at_ 0 rfl
  have qX0_1 := X0.out.at_ 1 rfl
  have qX0_2 := X0.out.at_ 2 rfl
  have qX0_3 := X0.out.at_ 3 rfl
  have qX1_0 := X1.out.at_ 0 rfl
  go_wp2_with fail
  have hcx := config_impl (hf := hf) HC.out HP.out HQ.out
  rw [Hb0.out] at hcx
  refine hcx.mono ?_
  intro e v1 h
  obtain ⟨rfl, hb⟩ := isB_elim h
  have HC := Lib.hid (rd_mv (Sl_ok R_Label_ok) HC.out hb)
  have HP := Lib.hid (rd_mv R_Pair_ok HP.out hb)
  have HQ := Lib.hid (rd_mv R_Quota_ok HQ.out hb)
  have X0 := Lib.hid (X0.out.call hb)
  have X1 := Lib.hid (X1.out.call hb)
  have HB0 := Lib.hid (HB0.out.trans (hb.mono HB0.out.size))
  clear h hb hcx qX0_0 qX0_1 qX0_2 qX0_3 qX1_0
  have qX0_0 := X0.out.at_ 0 rfl
  have qX0_1 := X0.out.at_ 1 rfl
  have qX0_2 := X0.out.at_ 2 rfl
  have qX0_3 := X0.out.at_ 3 rfl
  have qX1_0 := X1.out.at_ 0 rfl
  have s0 := X1.out.soft 0
  have hlt1 : W.heap.size + 1 < v1.heap.size := X1.out.lt
  cases b0 with
  | false =>
    have HN := Lib.hid (newMl_no Hb0.out)
    go_wp2
    refine bodyPost_ret (v := .agg #[.slice none 0 0]) (by simp [results, Try.results14, go_sem, *]) rfl ⟨[.slice none 0 0], rfl, ?_, HB0.out.setCell (p := ⟨W.heap.size + 1, 0, none⟩) (by show W.heap.size ≤ W.heap.size + 1; omega) _⟩
    rw [HN.out]
    exact mkow_Mail (T0 := fun _ => False) (fun k h => h.elim) empty_ow
  | true =>
    have HN := Lib.hid (newMl_yes Hb0.out)
    have HCF := Lib.hid (cfgB_iff.1 Hb0.out)
    have h4 : P.length ≤ 1048576 := Nat.le_trans HCF.out.2.2.2.1.1 (by omega)
    have hmk := make_BoxS P.length h4
    go_wp2
    have hsz := HB0.out.size
    have hbk := Blk.new (v1.setCell ⟨W.heap.size + 1, 0, none⟩ (.slice (some ⟨v1.heap.size, 0, none⟩) P.length P.length)) 58 (zs_BoxS P.length)
    have hss : (v1.setCell ⟨W.heap.size + 1, 0, none⟩ (.slice (some ⟨v1.heap.size, 0, none⟩) P.length P.length)).heap.size = v1.heap.size := by simp [World.setCell]
    rw [hss] at hbk
    have ho := boxes_new (w := v1) (S := fun k => k = v1.heap.size) hbk rfl h4
    have hbl := (HB0.out.setCell (p := ⟨W.heap.size + 1, 0, none⟩) (by show W.heap.size ≤ W.heap.size + 1; omega) (.slice (some ⟨v1.heap.size, 0, none⟩) P.length P.length)).alloc (by rw [hss]; exact hsz) (.cells (zs_BoxS P.length) 58)
    have hmm := mkow_Mail (S := Rg W.heap.size (v1.heap.size + 1)) (T0 := fun k => k = v1.heap.size) (fun k hk => by subst hk; exact ⟨hsz, Nat.lt_succ_self _⟩) ho
    simp only [List.length_replicate] at hmm
    refine bodyPost_ret (v := .agg #[.slice (some ⟨v1.heap.size, 0, none⟩) P.length P.length]) (by simp [results, Try.results14, go_sem, *]) rfl ⟨[.slice (some ⟨v1.heap.size, 0, none⟩) P.length P.length], rfl, ?_, hbl⟩
    rw [HN.out, World.size_alloc, hss]
    exact hmm
end Go.Proofs.Ytlgflddljhldhaa.RepC
end
