/- The program's working pool: a copy of a pool, its contract. -/
import Derived.Test.YtjpkeofpcpaoaaaPImC
import Derived.Test.YtjpkeofpcpaoaaaPoolN
import Derived.Test.YtjpkeofpcpaoaaaHalf
namespace Go.Proofs.Ytjpkeofpcpaoaaa.RepC
open Go.RowKit RowC ValC SpanC KeptC
set_option linter.unusedVariables false
set_option linter.unusedSimpArgs false

/-- a copy of a slice whose elements still share -/
def HalfR {α : Type} (E : Rp α) (T : TypeId) (L : List α) (w : World) (e : Ending) (w' : World) : Prop := ∃ a cap xs, e = .returned (.slice a L.length cap) ∧ Half E w.heap.size w' w.heap.size w'.heap.size T (.slice a L.length cap) L 0 xs (fun _ _ => False) ∧ Below w.heap.size w w'
theorem halfR_elim {α : Type} {E : Rp α} {T : TypeId} {L : List α} {w : World} {e : Ending} {w' : World} (h : HalfR E T L w e w') : ∃ a cap xs, e = .returned (.slice a L.length cap) ∧ Half E w.heap.size w' w.heap.size w'.heap.size T (.slice a L.length cap) L 0 xs (fun _ _ => False) ∧ Below w.heap.size w w' := h
theorem half_nil {α : Type} (E : Rp α) (T : TypeId) (w : World) : Half E w.heap.size w w.heap.size w.heap.size T (.slice none 0 0) ([] : List α) 0 [] (fun _ _ => False) :=
  ⟨⟨by simp, .inl ⟨rfl, rfl⟩⟩, fun i x hi => absurd hi (Nat.not_lt_zero _), fun i x _ hx => by simp at hx, fun i q hq => hq.elim, fun i j q _ hq => hq.elim, fun q hq => (by cases hq), Nat.le_refl _, Nat.le_refl _, Nat.le_refl _⟩

set_option maxHeartbeats 1600000 in
theorem clone_lab {L : List D_Label} {a : Option Addr} {cap : Nat} {W : World} (hn : L.length ≤ 1048576) (h : RdSl R_Label W W.heap.size L a cap) :
    Calls Try.prog 152 #[.slice a L.length cap] W (NewS R_Label L W) := by
  have qT : ∀ (w : World) (a : Option Addr) (n c n' c' : Nat), (binOp .eql 120 (.slice a n c) (.slice none n' c')).run Try.prog w = .ok (.bool a.isNone) w := fun w a n c n' c' => Lib.run_eql_slice_nil w _ _ a n c n' c' Try.underlying120
  cases a with
  | none =>
    have h0 : L.length = 0 := by
      by_cases hp : 0 < L.length
      · obtain ⟨g, o, he, _⟩ := h.2.2 hp
        cases he
      · omega
    have hL : L = [] := List.eq_nil_of_length_eq_zero h0
    subst hL
    go_enter Try.func152, Try.ntmps152
    go_wp2
    go_ret
    exact ⟨none, 0, rfl, ⟨Nat.le_refl _, Nat.zero_le _, fun h => absurd h (Nat.lt_irrefl _)⟩, Below.refl _ _⟩
  | some x =>
    obtain ⟨iL, hiL, hzL1, hsL, hbL⟩ := m_infoL
    obtain ⟨a', c', w5, hr, hos, hb⟩ := app_flat (P := Try.prog) (ty := 120) R_Label_ok flat_Label Try.underlying120 hiL hzL1 hsL hbL rfl (by decide) (by unfold maxLen; omega) (by omega) h
    clear hiL hzL1 hsL hbL
    have HR := Lib.hid hr
    have HO := Lib.hid hos
    have HB := Lib.hid hb
    clear hr hos hb h
    go_enter Try.func152, Try.ntmps152
    go_wp2_with (at_builtin; refine wpList_app rfl (.tmp 5) (.tmp 6) 120 rfl rfl rfl HR.out ?_)
    go_ret
    exact ⟨a', c', rfl, HO.out, HB.out⟩

set_option maxHeartbeats 1600000 in
theorem clone_job {L : List D_Job} {a : Option Addr} {cap : Nat} {W : World} (hn : L.length ≤ 1048576) (h : RdSl R_Job W W.heap.size L a cap) :
    Calls Try.prog 151 #[.slice a L.length cap] W (HalfR R_Job 45 L W) := by
  have qT : ∀ (w : World) (a : Option Addr) (n c n' c' : Nat), (binOp .eql 48 (.slice a n c) (.slice none n' c')).run Try.prog w = .ok (.bool a.isNone) w := fun w a n c n' c' => Lib.run_eql_slice_nil w _ _ a n c n' c' Try.underlying48
  cases a with
  | none =>
    have h0 : L.length = 0 := by
      by_cases hp : 0 < L.length
      · obtain ⟨g, o, he, _⟩ := h.2.2 hp
        cases he
      · omega
    have hL : L = [] := List.eq_nil_of_length_eq_zero h0
    subst hL
    go_enter Try.func151, Try.ntmps151
    go_wp2
    go_ret
    exact ⟨none, 0, _, rfl, half_nil R_Job _ _, Below.refl _ _⟩
  | some x =>
    obtain ⟨iL, hiL, hzL1, hsL, hbL⟩ := m_infoJob
    obtain ⟨a', c', w5, xs, hr, hos, hb⟩ := app_half (P := Try.prog) (ty := 48) R_Job_ok Try.underlying48 hiL hzL1 hsL hbL rfl (by decide) (by unfold maxLen; omega) (by omega) h
    clear hiL hzL1 hsL hbL
    have HR := Lib.hid hr
    have HO := Lib.hid hos
    have HB := Lib.hid hb
    clear hr hos hb h
    go_enter Try.func151, Try.ntmps151
    go_wp2_with (at_builtin; refine wpList_app rfl (.tmp 5) (.tmp 6) 48 rfl rfl rfl HR.out ?_)
    go_ret
    exact ⟨a', c', xs, rfl, HO.out, HB.out⟩

set_option maxHeartbeats 1600000 in
theorem clone_ints {L : List Int} {a : Option Addr} {cap : Nat} {W : World} (hn : L.length ≤ 1048576) (h : RdSl I W W.heap.size L a cap) :
    Calls Try.prog 86 #[.slice a L.length cap] W (NewS I L W) := by
  have qT : ∀ (w : World) (a : Option Addr) (n c n' c' : Nat), (binOp .eql 37 (.slice a n c) (.slice none n' c')).run Try.prog w = .ok (.bool a.isNone) w := fun w a n c n' c' => Lib.run_eql_slice_nil w _ _ a n c n' c' Try.underlying37
  cases a with
  | none =>
    have h0 : L.length = 0 := by
      by_cases hp : 0 < L.length
      · obtain ⟨g, o, he, _⟩ := h.2.2 hp
        cases he
      · omega
    have hL : L = [] := List.eq_nil_of_length_eq_zero h0
    subst hL
    go_enter Try.func86, Try.ntmps86
    go_wp2
    go_ret
    exact ⟨none, 0, rfl, ⟨Nat.le_refl _, Nat.zero_le _, fun h => absurd h (Nat.lt_irrefl _)⟩, Below.refl _ _⟩
  | some x =>
    obtain ⟨a', c', w5, hr, hos, hb⟩ := app_copy (ty := 37) hn h
    have HR := Lib.hid hr
    have HO := Lib.hid hos
    have HB := Lib.hid hb
    clear hr hos hb h
    go_enter Try.func86, Try.ntmps86
    go_wp2_with (at_builtin; refine wpList_app rfl (.tmp 5) (.tmp 6) 37 rfl rfl rfl HR.out ?_)
    go_ret
    exact ⟨a', c', rfl, HO.out, HB.out⟩

/-- the blocks that a row of the call's own bears -/
def Bears (v : Value) (Sf : Nat → Nat → Prop) (k : Nat) : Prop := v.ownBlock = some k ∨ ∃ i, Sf i k
theorem App.done2 {α : Type} {E : Rp α} {w : World} {lo hi : Nat} {T : TypeId} {v : Value} {L : List α} {xs : List Value} {Sf : Nat → Nat → Prop} (h : App E w lo hi T v L xs Sf) : ∃ a cap, v = .slice a L.length cap ∧ OwSl E w (Bears v Sf) L a cap := by
  obtain ⟨a, cap, hv, ho⟩ := h.done
  refine ⟨a, cap, hv, ho.1, ho.2.1, fun hn => ?_⟩
  obtain ⟨hx, h2⟩ := h.own
  rcases h2 with ⟨e, h0⟩ | ⟨g, cap', cur, e, hlo, hg, hn2, hm, hc, ht⟩
  · omega
  · have e2 := hv.symm.trans e
    injection e2 with e3 _ _
    refine ⟨g, Sf, e3, .inl (by rw [e]; rfl), fun j => by simp [World.frozen?, hg], fun i k hk => ⟨.inr ⟨i, hk⟩, fun e4 => (h.sub i k hk).2.2 (by rw [e, e4]; rfl)⟩, h.dis, fun i x hi => ?_⟩
    obtain ⟨us, h1, h3⟩ := h.el i x hi
    refine ⟨us, fun j c hj => ?_, h3⟩
    have h4 := h1 j c hj
    rw [← ht] at h4
    have h5 : cur.toList[i * E.size + j]? = some c := by
      rw [List.getElem?_take] at h4
      split at h4
      · exact h4
      · cases h4
    exact (cell_of_row w g _ cur _ _ hg).trans (by simpa using h5)
theorem App.bears {α : Type} {E : Rp α} {w : World} {lo hi : Nat} {T : TypeId} {v : Value} {L : List α} {xs : List Value} {Sf : Nat → Nat → Prop} (h : App E w lo hi T v L xs Sf) {k : Nat} (hk : Bears v Sf k) : lo ≤ k ∧ k < hi := by
  rcases hk with hk | ⟨i, hk⟩
  · exact h.blk k hk
  · exact ⟨(h.sub i k hk).1, (h.sub i k hk).2.1⟩
/-- a working pool in block g: its lists are its own -/
def WP (C : List (List D_Label)) (L : List D_Job) (now : Int) (lo g : Nat) (w : World) : Prop :=
  ∃ ca cc ja jc l1 h1 l2 h2 xs Sf ys Sg, Blk w g 140 #[.slice ja L.length jc, .slice ca C.length cc, .int .i64 now] ∧ App R_Job w l1 h1 45 (.slice ja L.length jc) L xs Sf ∧ App (Sl R_Label) w l2 h2 120 (.slice ca C.length cc) C ys Sg ∧
    lo ≤ l1 ∧ l1 ≤ h1 ∧ lo ≤ l2 ∧ l2 ≤ h2 ∧ lo ≤ g ∧ g < l2 ∧ (∀ k, Bears (.slice ja L.length jc) Sf k → ¬ Rg l2 h2 k) ∧ ¬ Bears (.slice ja L.length jc) Sf g
theorem WP.call {C : List (List D_Label)} {L : List D_Job} {now : Int} {lo g : Nat} {w w' : World} (h : WP C L now lo g w) (hb : Below w.heap.size w w') : WP C L now lo g w' := by
  obtain ⟨ca, cc, ja, jc, l1, h1, l2, h2, xs, Sf, ys, Sg, hG, hA, hB, r⟩ := h
  exact ⟨ca, cc, ja, jc, l1, h1, l2, h2, xs, Sf, ys, Sg, hG.call hb, hA.call R_Job_ok hb, hB.call (Sl_ok R_Label_ok) hb, r⟩
def WorkR (C : List (List D_Label)) (L : List D_Job) (now : Int) (w : World) (e : Ending) (w' : World) : Prop := ∃ g, e = .returned (.pointer (some ⟨g, 0, none⟩)) ∧ WP C L now w.heap.size g w' ∧ Below w.heap.size w w'
theorem workR_elim {C : List (List D_Label)} {L : List D_Job} {now : Int} {w : World} {e : Ending} {w' : World} (h : WorkR C L now w e w') : ∃ g, e = .returned (.pointer (some ⟨g, 0, none⟩)) ∧ WP C L now w.heap.size g w' ∧ Below w.heap.size w w' := h
theorem poolR_lens {C : List (List D_Label)} {L : List D_Job} {now : Int} (h : PoolR C L now) : C.length ≤ 6 ∧ L.length ≤ 96 ∧ (∀ (i : Nat) x, C[i]? = some x → x.length ≤ 4) ∧ (∀ (i : Nat) d, L[i]? = some d → (ndsOf d).length ≤ 6) := by
  refine ⟨h.1.2.1, h.2.1.1, fun i x hx => (h.1.2.2 i x hx).2.1, fun i d hd => ?_⟩
  obtain ⟨⟨x0, x1⟩, x2, x3, x4, x5, x6, x7, L0⟩ := d
  have hj : JobR x0 x1 x2 x3 x4 x5 x6 x7 L0 := (h.2.1.2 i (el_lt hd) _ hd).1
  show L0.length ≤ 6
  by_cases h2 : x6 = 2
  · have h3 := hj.2.2.2.2.2.2.1 h2
    have hn := isB_io.1 (show isB x3 1 6 = true from hj.2.2.1)
    omega
  · have := (hj.2.2.2.2.2.2.2 h2).2
    omega

set_option maxRecDepth 100000 in
set_option maxHeartbeats 3200000 in
theorem workon_spec {C : List (List D_Label)} {L : List D_Job} {now : Int} {ca ja : Option Addr} {cc jc : Nat} {W : World} (hP : PoolR C L now) (hC : RdSl (Sl R_Label) W W.heap.size C ca cc) (hL : RdSl R_Job W W.heap.size L ja jc) :
    Calls Try.prog 138 #[.agg #[.slice ca C.length cc, .slice ja L.length jc, .int .i64 now]] W (WorkR C L now W) := by
  have HC := Lib.hid hC
  have HL := Lib.hid hL
  have HPL := Lib.hid (poolR_lens hP)
  have hcn : C.length ≤ 6 := HPL.out.1
  have hln : L.length ≤ 96 := HPL.out.2.1
  clear hC hL hP
  have HB0 := Lib.hid (show Below W.heap.size W (W.alloc (.cells #[.slice ca C.length cc, .slice ja L.length jc, .int .i64 now] 65)) from (Below.refl _ _).alloc (Nat.le_refl _) _)
  have HP0 := Lib.hid (Blk.new W 65 #[.slice ca C.length cc, .slice ja L.length jc, .int .i64 now])
  have HL0 := Lib.hid (rd_mv R_Job_ok HL.out HB0.out)
  have hz0 : (W.alloc (.cells #[.slice ca C.length cc, .slice ja L.length jc, .int .i64 now] 65)).heap.size = W.heap.size + 1 := by simp
  go_enter Try.func138, Try.ntmps138
  go_wp2_with fail
  obtain ⟨W1, hW1⟩ : ∃ w, w = W.alloc (.cells #[.slice ca C.length cc, .slice ja L.length jc, .int .i64 now] 65) := ⟨_, rfl⟩
  rw [← hW1] at HB0 HP0 HL0 hz0 ⊢
  clear hW1
  have p1 := HP0.out.at_ 1 rfl
  have p2 := HP0.out.at_ 2 rfl
  have hpl := HP0.out.lt
  refine wp_region_held_drew (S := (fun V => Below W1.heap.size W1 V)) (by kernel_rfl) (((Below.refl _ W1).drew)) (fun hHeld => ?_)
  (refine wpAnyH_take (i := 0) (v := ?hv1) rfl (by kernel_rfl) (by kernel_rfl) (by kernel_rfl) (fun _ _ _ h => h) (Or.inl ⟨by kernel_rfl, ?hy1⟩) hHeld ?hr1; case hy1 => (intro w hSw; (try dsimp only at hSw); go_simp; try with_reducible rfl))
  simp only [Act.put, List.getElem_toArray, List.getElem_cons_succ, List.getElem_cons_zero, List.setIfInBounds_toArray, List.set_cons_zero, List.set_cons_succ]
  (refine wpAnyH_take (i := 1) (v := ?hv2) rfl (by kernel_rfl) (by kernel_rfl) (by kernel_rfl) (fun _ _ _ h => h) (Or.inl ⟨by kernel_rfl, ?hy2⟩) hHeld ?hr2; case hy2 => (intro w hSw; (try dsimp only at hSw); have k0 := (hSw.cell (p := ⟨W.heap.size, 1, none⟩) hpl).trans p1; clear hSw; go_simp; try with_reducible rfl))
  simp only [Act.put, List.getElem_toArray, List.getElem_cons_succ, List.getElem_cons_zero, List.setIfInBounds_toArray, List.set_cons_zero, List.set_cons_succ]
  (refine wpAnyH_take (i := 3) (v := ?hv3) rfl (by kernel_rfl) (by kernel_rfl) (by kernel_rfl) (fun _ _ _ h => h) (Or.inl ⟨by kernel_rfl, ?hy3⟩) hHeld ?hr3; case hy3 => (intro w hSw; (try dsimp only at hSw); go_simp; try with_reducible rfl))
  simp only [Act.put, List.getElem_toArray, List.getElem_cons_succ, List.getElem_cons_zero, List.setIfInBounds_toArray, List.set_cons_zero, List.set_cons_succ]
  (refine wpAnyH_take (i := 4) (v := ?hv4) rfl (by kernel_rfl) (by kernel_rfl) (by kernel_rfl) (fun _ _ _ h => h) (Or.inl ⟨by kernel_rfl, ?hy4⟩) hHeld ?hr4; case hy4 => (intro w hSw; (try dsimp only at hSw); have k0 := (hSw.cell (p := ⟨W.heap.size, 2, none⟩) hpl).trans p2; clear hSw; go_simp; try with_reducible rfl))
  simp only [Act.put, List.getElem_toArray, List.getElem_cons_succ, List.getElem_cons_zero, List.setIfInBounds_toArray, List.set_cons_zero, List.set_cons_succ]
  refine wpAnyH_ready (rs := [2]) (by kernel_rfl) (by simp) ?_
  refine AllReadyH.cons rfl (fun K hK => ?_) (AllReadyH.nil)
  go_simp
  go_at_call 151
  refine (clone_job (by omega) (show RdSl R_Job W1.drew W1.drew.heap.size L ja jc from HL0.out.below R_Job_ok ((Below.refl _ _).drew))).mono ?_
  intro e w2 h
  obtain ⟨ja2, jc2, xs, rfl, hh, hb⟩ := halfR_elim h
  have hbd : Below W1.heap.size W1 w2 := ((Below.refl _ _).drew).trans hb
  have HPB := Lib.hid hbd
  have HH2 := Lib.hid (show Half R_Job W1.heap.size w2 W1.heap.size w2.heap.size 45 (.slice ja2 L.length jc2) L 0 xs (fun _ _ => False) from hh)
  have HP2 := Lib.hid (HP0.out.call hbd)
  have HB2 := Lib.hid (HB0.out.trans (hbd.mono (by omega)))
  refine hK.out _ _ hbd (fun hHeld => ?_)
  clear h hh hb hbd
  clear hK K
  try simp only [Act.put, List.getElem_toArray, List.getElem_cons_succ, List.getElem_cons_zero, List.setIfInBounds_toArray, List.set_cons_zero, List.set_cons_succ]
  (refine wpAnyH_take (i := 5) (v := ?hv5) rfl (by kernel_rfl) (by kernel_rfl) (by kernel_rfl) (fun _ _ _ h => h) (Or.inl ⟨by kernel_rfl, ?hy5⟩) hHeld ?hr5; case hy5 => (intro w hSw; (try dsimp only at hSw); go_simp; try with_reducible rfl))
  simp only [Act.put, List.getElem_toArray, List.getElem_cons_succ, List.getElem_cons_zero, List.setIfInBounds_toArray, List.set_cons_zero, List.set_cons_succ]
  refine wpAnyH_ready (rs := [6]) (by kernel_rfl) (by simp) ?_
  refine AllReadyH.cons rfl (fun K hK => ?_) (AllReadyH.nil)
  go_simp
  refine hK.out _ _ (HPB.out.alloc HPB.out.size _) (fun hHeld => ?_)
  clear hK K
  try simp only [Act.put, List.getElem_toArray, List.getElem_cons_succ, List.getElem_cons_zero, List.setIfInBounds_toArray, List.set_cons_zero, List.set_cons_succ]
  (refine wpAnyH_take (i := 7) (v := ?hv6) rfl (by kernel_rfl) (by kernel_rfl) (by kernel_rfl) (fun _ _ _ h => h) (Or.inl ⟨by kernel_rfl, ?hy6⟩) hHeld ?hr6; case hy6 => (intro w hSw; (try dsimp only at hSw); go_simp; try with_reducible rfl))
  simp only [Act.put, List.getElem_toArray, List.getElem_cons_succ, List.getElem_cons_zero, List.setIfInBounds_toArray, List.set_cons_zero, List.set_cons_succ]
  refine wpAnyH_done (by kernel_rfl) ?_ _
  go_wp2
  obtain ⟨W3, hW3⟩ : ∃ w, w = w2.alloc (.cells #[.slice ja2 L.length jc2, .slice none 0 0, .int .i64 now] 140) := ⟨_, rfl⟩
  have hb3 : Below w2.heap.size w2 W3 := by rw [hW3]; exact (Below.refl _ _).alloc (Nat.le_refl _) _
  have HG3 := Lib.hid (show Blk W3 w2.heap.size 140 #[.slice ja2 L.length jc2, .slice none 0 0, .int .i64 now] from by rw [hW3]; exact Blk.new _ _ _)
  rw [← hW3]
  have hs3 : W3.heap.size = w2.heap.size + 1 := by rw [hW3]; simp
  clear hW3
  have HH3 := Lib.hid (HH2.out.call R_Job_ok hb3)
  have HP3 := Lib.hid (HP2.out.call hb3)
  have HB3 := Lib.hid (HB2.out.trans (hb3.mono HB2.out.size))
  have hlo2 : W.heap.size + 1 ≤ w2.heap.size := by have := HPB.out.size; omega
  have hbk := fun q hq => HH2.out.blk q hq
  have HBK := Lib.hid hbk
  clear hb3 hbk
  clear HH2 HP2 HB2 p1 p2 HP0 HL0
  go_loopw [20] (fun i wr => ∃ k : Nat, k ≤ L.length ∧ i = .int .i64 k ∧ Below W.heap.size W wr ∧ Hid (Blk wr W.heap.size 65 #[.slice ca C.length cc, .slice ja L.length jc, .int .i64 now]) ∧ Hid (Blk wr w2.heap.size 140 #[.slice ja2 L.length jc2, .slice none 0 0, .int .i64 now]) ∧ ∃ hi xs Sf, Hid (w2.heap.size < hi) ∧ Hid (Half R_Job W1.heap.size wr W1.heap.size hi 45 (.slice ja2 L.length jc2) L k xs Sf) ∧ Hid (∀ i, ¬ Sf i w2.heap.size)) (fun i _ => L.length - (intOf i).toNat)
  case atStart => exact ⟨0, Nat.zero_le _, rfl, HB3.out, HP3, HG3, W3.heap.size, _, _, Lib.hid (by omega), Lib.hid ⟨HH3.out.own, HH3.out.el, HH3.out.rest, fun i q hq => hq.elim, HH3.out.dis, fun q hq => by have := HBK.out q hq; omega, Nat.le_refl _, HH3.out.base, HH3.out.top⟩, Lib.hid (fun i h => h)⟩
  case round =>
    obtain ⟨k, hk, rfl, hB, HP, HG, hi, xs, Sf, HHI, HH, HNG⟩ := hrel
    have HB := Lib.hid hB
    have hsz := hB.size
    by_cases hlt : k < L.length
    · have hdl : decide ((k : Int) < (L.length : Int)) = true := decide_eq_true (by omega)
      obtain ⟨⟨⟨x0, x1⟩, x2, x3, x4, x5, x6, x7, L0⟩, hx⟩ := el_some hlt
      have HX := Lib.hid hx
      obtain ⟨gJ, capJ, he⟩ : ∃ gJ c, ja2 = some ⟨gJ, 0, none⟩ ∧ jc2 = c := by
        rcases HH.out.own.2 with ⟨e, h0⟩ | ⟨gJ, cap, cur, e, _⟩
        · omega
        · injection e with e1 e2 e3
          exact ⟨gJ, cap, e1, e3⟩
      obtain ⟨rfl, rfl⟩ := he
      obtain ⟨us, hu, hr, hus⟩ := HH.out.at_ (Nat.le_refl _) hx
      have hul := R_Job_ok.rd_len hr
      obtain ⟨a0, c0, rfl, k_L0⟩ := rd_Job hr
      have e0 : wr.cell? ⟨gJ, k * 9, none⟩ = some (.int .i64 x0) := by simpa [sizeq_JobS, Nat.add_assoc] using hu 0 _ rfl
      have e1 : wr.cell? ⟨gJ, k * 9 + 1, none⟩ = some (.int .i64 x1) := by simpa [sizeq_JobS, Nat.add_assoc] using hu 1 _ rfl
      have e2 : wr.cell? ⟨gJ, k * 9 + 2, none⟩ = some (.int .i64 x2) := by simpa [sizeq_JobS, Nat.add_assoc] using hu 2 _ rfl
      have e3 : wr.cell? ⟨gJ, k * 9 + 3, none⟩ = some (.int .i64 x3) := by simpa [sizeq_JobS, Nat.add_assoc] using hu 3 _ rfl
      have e4 : wr.cell? ⟨gJ, k * 9 + 4, none⟩ = some (.int .i64 x4) := by simpa [sizeq_JobS, Nat.add_assoc] using hu 4 _ rfl
      have e5 : wr.cell? ⟨gJ, k * 9 + 5, none⟩ = some (.int .i64 x5) := by simpa [sizeq_JobS, Nat.add_assoc] using hu 5 _ rfl
      have e6 : wr.cell? ⟨gJ, k * 9 + 6, none⟩ = some (.int .i64 x6) := by simpa [sizeq_JobS, Nat.add_assoc] using hu 6 _ rfl
      have e7 : wr.cell? ⟨gJ, k * 9 + 7, none⟩ = some (.int .i64 x7) := by simpa [sizeq_JobS, Nat.add_assoc] using hu 7 _ rfl
      have e8 : wr.cell? ⟨gJ, k * 9 + 8, none⟩ = some (.slice a0 L0.length c0) := by simpa [sizeq_JobS, Nat.add_assoc] using hu 8 _ rfl
      have hi0 : (0 : Int) ≤ (k : Int) := Int.natCast_nonneg _
      have hi1 : (k : Int) < (L.length : Int) := by omega
      have hL06 : L0.length ≤ 6 := HPL.out.2.2.2 k _ HX.out
      have hgJ := HBK.out gJ rfl
      have hgJh := HH.out.blk gJ rfl
      have hle := HH.out.le
      have hgJl : gJ < wr.heap.size := by omega
      have HUS := Lib.hid hus
      have HUL := Lib.hid hul
      -- the job, in a box of its own
      obtain ⟨wj, hwj⟩ : ∃ w, w = wr.alloc (.cells #[.int .i64 x0, .int .i64 x1, .int .i64 x2, .int .i64 x3, .int .i64 x4, .int .i64 x5, .int .i64 x6, .int .i64 x7, .slice a0 L0.length c0] 45) := ⟨_, rfl⟩
      have hbj : Below wr.heap.size wr wj := by rw [hwj]; exact (Below.refl _ _).alloc (Nat.le_refl _) _
      have HJB := Lib.hid (show Blk wj wr.heap.size 45 #[.int .i64 x0, .int .i64 x1, .int .i64 x2, .int .i64 x3, .int .i64 x4, .int .i64 x5, .int .i64 x6, .int .i64 x7, .slice a0 L0.length c0] from by rw [hwj]; exact Blk.new _ _ _)
      have hsj : wj.heap.size = wr.heap.size + 1 := by rw [hwj]; simp
      have HBJ := Lib.hid hbj
      have HK := Lib.hid (show RdSl I wj.drew wj.drew.heap.size L0 a0 c0 from ((k_L0.below I_ok (hbj.mono HH.out.top)).more I_ok (Nat.le_trans HH.out.top hbj.size)).below I_ok ((Below.refl _ _).drew))
      have HGJ := Lib.hid (HG.out.call hbj)
      have gj0 := HGJ.out.at_ 0 rfl
      have jb8 := HJB.out.at_ 8 rfl
      have hgl := HG.out.lt
      clear hB hu hr k_L0 hx hus hul
      go_wp2_with fail
      rw [← hwj]
      clear hwj hbj
      clear e0 e1 e2 e3 e4 e5 e6 e7
      refine wp_region_held_drew (S := (fun V => V.cell? ⟨w2.heap.size, 0, none⟩ = some (.slice (some ⟨gJ, 0, none⟩) L.length jc2) ∧ V.cell? ⟨wr.heap.size, 8, none⟩ = some (.slice a0 L0.length c0))) (by kernel_rfl) (⟨gj0, jb8⟩) (fun hHeld => ?_)
      (refine wpAnyH_take (i := 0) (v := ?hv7) rfl (by kernel_rfl) (by kernel_rfl) (by kernel_rfl) (fun _ _ _ h => h) (Or.inl ⟨by kernel_rfl, ?hy7⟩) hHeld ?hr7; case hy7 => (intro w hSw; (try dsimp only at hSw); go_simp; try with_reducible rfl))
      simp only [Act.put, List.getElem_toArray, List.getElem_cons_succ, List.getElem_cons_zero, List.setIfInBounds_toArray, List.set_cons_zero, List.set_cons_succ]
      (refine wpAnyH_take (i := 1) (v := ?hv8) rfl (by kernel_rfl) (by kernel_rfl) (by kernel_rfl) (fun _ _ _ h => h) (Or.inl ⟨by kernel_rfl, ?hy8⟩) hHeld ?hr8; case hy8 => (intro w hSw; (try dsimp only at hSw); go_simp; try with_reducible rfl))
      simp only [Act.put, List.getElem_toArray, List.getElem_cons_succ, List.getElem_cons_zero, List.setIfInBounds_toArray, List.set_cons_zero, List.set_cons_succ]
      (refine wpAnyH_take (i := 2) (v := ?hv9) rfl (by kernel_rfl) (by kernel_rfl) (by kernel_rfl) (fun _ _ _ h => h) (Or.inl ⟨by kernel_rfl, ?hy9⟩) hHeld ?hr9; case hy9 => (intro w hSw; (try dsimp only at hSw); go_simp; try with_reducible rfl))
      simp only [Act.put, List.getElem_toArray, List.getElem_cons_succ, List.getElem_cons_zero, List.setIfInBounds_toArray, List.set_cons_zero, List.set_cons_succ]
      (refine wpAnyH_take (i := 3) (v := ?hv10) rfl (by kernel_rfl) (by kernel_rfl) (by kernel_rfl) (fun _ _ _ h => h) (Or.inl ⟨by kernel_rfl, ?hy10⟩) hHeld ?hr10; case hy10 => (intro w hSw; (try dsimp only at hSw); have k0 := hSw.1; clear hSw; go_simp; try with_reducible rfl))
      simp only [Act.put, List.getElem_toArray, List.getElem_cons_succ, List.getElem_cons_zero, List.setIfInBounds_toArray, List.set_cons_zero, List.set_cons_succ]
      (refine wpAnyH_take (i := 4) (v := ?hv11) rfl (by kernel_rfl) (by kernel_rfl) (by kernel_rfl) (fun _ _ _ h => h) (Or.inl ⟨by kernel_rfl, ?hy11⟩) hHeld ?hr11; case hy11 => (intro w hSw; (try dsimp only at hSw); go_simp; try with_reducible rfl))
      simp only [Act.put, List.getElem_toArray, List.getElem_cons_succ, List.getElem_cons_zero, List.setIfInBounds_toArray, List.set_cons_zero, List.set_cons_succ]
      (refine wpAnyH_take (i := 5) (v := ?hv12) rfl (by kernel_rfl) (by kernel_rfl) (by kernel_rfl) (fun _ _ _ h => h) (Or.inl ⟨by kernel_rfl, ?hy12⟩) hHeld ?hr12; case hy12 => (intro w hSw; (try dsimp only at hSw); go_simp; try with_reducible rfl))
      simp only [Act.put, List.getElem_toArray, List.getElem_cons_succ, List.getElem_cons_zero, List.setIfInBounds_toArray, List.set_cons_zero, List.set_cons_succ]
      (refine wpAnyH_take (i := 6) (v := ?hv13) rfl (by kernel_rfl) (by kernel_rfl) (by kernel_rfl) (fun _ _ _ h => h) (Or.inl ⟨by kernel_rfl, ?hy13⟩) hHeld ?hr13; case hy13 => (intro w hSw; (try dsimp only at hSw); have k0 := hSw.2; clear hSw; go_simp; try with_reducible rfl))
      simp only [Act.put, List.getElem_toArray, List.getElem_cons_succ, List.getElem_cons_zero, List.setIfInBounds_toArray, List.set_cons_zero, List.set_cons_succ]
      refine wpAnyH_ready (rs := [7]) (by kernel_rfl) (by simp) ?_
      refine AllReadyH.cons rfl (fun K hK => ?_) (AllReadyH.nil)
      go_simp
      go_at_call 86
      refine (clone_ints (by omega) HK.out).mono ?_
      intro e w5 h
      obtain ⟨a5, c5, rfl, ho, hb⟩ := newS_elim h
      have hbd : Below wj.heap.size wj w5 := ((Below.refl _ _).drew).trans hb
      have hbw : Below wr.heap.size wr w5 := HBJ.out.trans (hbd.mono HBJ.out.size)
      have ht8 : w5.cell? ⟨gJ, k * 9 + 8, none⟩ = some (.slice a0 L0.length c0) := (hbw.cell (p := ⟨gJ, k * 9 + 8, none⟩) hgJl).trans e8
      have hf8 : w5.frozen? ⟨gJ, k * 9 + 8, none⟩ = false := (hbw.frozen (p := ⟨gJ, k * 9 + 8, none⟩) hgJl).trans (HH.out.soft _)
      have hg5 : w5.cell? ⟨w2.heap.size, 0, none⟩ = some (.slice (some ⟨gJ, 0, none⟩) L.length jc2) := (hbw.cell (p := ⟨w2.heap.size, 0, none⟩) hgl).trans (HG.out.at_ 0 rfl)
      have hj5 : w5.cell? ⟨wr.heap.size, 8, none⟩ = some (.slice a0 L0.length c0) := (hbd.cell (p := ⟨wr.heap.size, 8, none⟩) HJB.out.lt).trans jb8
      obtain ⟨xs', Sf', hH, hsf⟩ := HH.out.step R_Job_ok HX.out HUS.out (p := 8) (by decide) HUL.out (u := .slice a5 L0.length c5) hbw (mkow_Job (T0 := Rg wj.drew.heap.size w5.heap.size) (fun q hq => ⟨by have h1 : wj.heap.size ≤ q := hq.1; omega, hq.2⟩) ho)
      have HH5 := Lib.hid hH
      have HNG5 := Lib.hid (show ∀ i, ¬ Sf' i w2.heap.size from fun i hi => by rcases hsf i _ hi with h | h; exact HNG.out i h; exact (by have h1 : wr.heap.size ≤ w2.heap.size := h.1; omega))
      have HB5 := Lib.hid ((HB.out.trans (hbw.mono hsz)).setCell (p := ⟨gJ, k * 9 + 8, none⟩) (by show W.heap.size ≤ gJ; omega) (.slice a5 L0.length c5))
      have HP5 := Lib.hid ((HP.out.call hbw).far (b := gJ) (o := k * 9 + 8) (by omega) (.slice a5 L0.length c5))
      have HG5 := Lib.hid ((HG.out.call hbw).far (b := gJ) (o := k * 9 + 8) (by omega) (.slice a5 L0.length c5))
      have hhi5 : w2.heap.size < w5.heap.size := Nat.lt_of_lt_of_le hgl hbw.size
      clear ho hb hH hbd hbw hsf
      refine hK.out _ _ ⟨hg5, hj5⟩ (fun hHeld => ?_)
      clear h hg5 hj5 gj0 jb8
      clear hK K
      try simp only [Act.put, List.getElem_toArray, List.getElem_cons_succ, List.getElem_cons_zero, List.setIfInBounds_toArray, List.set_cons_zero, List.set_cons_succ]
      (refine wpAnyH_take (i := 8) (v := ?hv14) rfl (by kernel_rfl) (by kernel_rfl) (by kernel_rfl) (fun _ _ _ h => h) (Or.inl ⟨by kernel_rfl, ?hy14⟩) hHeld ?hr14; case hy14 => (intro w hSw; (try dsimp only at hSw); go_simp; try with_reducible rfl))
      simp only [Act.put, List.getElem_toArray, List.getElem_cons_succ, List.getElem_cons_zero, List.setIfInBounds_toArray, List.set_cons_zero, List.set_cons_succ]
      (refine wpAnyH_take (i := 9) (v := ?hv15) rfl (by kernel_rfl) (by kernel_rfl) (by kernel_rfl) (fun _ _ _ h => h) (Or.inl ⟨by kernel_rfl, ?hy15⟩) hHeld ?hr15; case hy15 => (intro w hSw; (try dsimp only at hSw); go_simp; try with_reducible rfl))
      simp only [Act.put, List.getElem_toArray, List.getElem_cons_succ, List.getElem_cons_zero, List.setIfInBounds_toArray, List.set_cons_zero, List.set_cons_succ]
      refine wpAnyH_ready (rs := [10]) (by kernel_rfl) (by simp) ?_
      refine AllReadyH.cons rfl (fun K hK => ?_) (AllReadyH.nil)
      go_simp
      refine hK.out _ _ ⟨(World.cell?_setCell_other _ _ _ _ (fun e => by injection e with e1 _; omega)).trans hHeld.1, (World.cell?_setCell_other _ _ _ _ (fun e => by injection e with e1 _; omega)).trans hHeld.2⟩ (fun hHeld => ?_)
      clear hK K
      try simp only [Act.put, List.getElem_toArray, List.getElem_cons_succ, List.getElem_cons_zero, List.setIfInBounds_toArray, List.set_cons_zero, List.set_cons_succ]
      refine wpAnyH_done (by kernel_rfl) ?_ _
      clear hHeld ht8 hf8
      go_wp2
      go_roundw
      case rel => exact ⟨k + 1, by omega, by go_num, HB5.out, HP5, HG5, w5.heap.size, xs', Sf', Lib.hid hhi5, HH5, HNG5⟩
      case measure => simp [intOf]; omega
    · have hdl : decide ((k : Int) < (L.length : Int)) = false := decide_eq_false (by omega)
      obtain rfl : k = L.length := by omega
      have HA := Lib.hid HH.out.done
      have hle := HH.out.le
      have hhi := HHI.out
      obtain ⟨wq, rfl⟩ : ∃ x, x = wr := ⟨_, rfl⟩
      have p0 := HP.out.at_ 0 rfl
      clear hB HH
      go_wp2
      go_loopw [39] (fun i wr => ∃ k : Nat, k ≤ C.length ∧ i = .int .i64 k ∧ Below W.heap.size W wr ∧ Hid (Blk wr W.heap.size 65 #[.slice ca C.length cc, .slice ja L.length jc, .int .i64 now]) ∧ Hid (App R_Job wr W1.heap.size hi 45 (.slice ja2 L.length jc2) L xs Sf) ∧ ∃ v hj ys Sg, Hid (Blk wr w2.heap.size 140 #[.slice ja2 L.length jc2, v, .int .i64 now]) ∧ Hid (wq.heap.size ≤ hj) ∧ Hid (App (Sl R_Label) wr wq.heap.size hj 120 v (C.take k) ys Sg)) (fun i _ => C.length - (intOf i).toNat)
      case atStart => exact ⟨0, Nat.zero_le _, rfl, HB.out, HP, HA, _, _, _, _, HG, Lib.hid (Nat.le_refl _), Lib.hid (App.none_ _ _ _ (Nat.le_refl _))⟩
      case round =>
        obtain ⟨j, hj, rfl, hB, HP, HA, v, hh, ys, Sg, HG, HHJ, HA2⟩ := hrel
        have HB := Lib.hid hB
        have hsz := hB.size
        have p0 := HP.out.at_ 0 rfl
        by_cases hlj : j < C.length
        · have hdj : decide ((j : Int) < (C.length : Int)) = true := decide_eq_true (by omega)
          obtain ⟨x, hx⟩ := el_some hlj
          have HX := Lib.hid hx
          obtain ⟨g, o, us, rfl, hg, hu, hr⟩ := HC.out.at_ hx
          obtain ⟨a1, c1, rfl, hx1⟩ := hr
          have e0 : wr.cell? ⟨g, o + j, none⟩ = some (.slice a1 x.length c1) := (hB.cell (p := ⟨g, o + j, none⟩) hg).trans (by simpa [size_SLab] using hu 0 _ rfl)
          have hi0 : (0 : Int) ≤ (j : Int) := Int.natCast_nonneg _
          have hi1 : (j : Int) < (C.length : Int) := by omega
          have hxl : x.length ≤ 4 := HPL.out.2.2.1 j x hx
          have HK := Lib.hid (show RdSl R_Label wr.drew wr.drew.heap.size x a1 c1 from ((hx1.below R_Label_ok hB).more R_Label_ok hsz).below R_Label_ok ((Below.refl _ _).drew))
          have hT : C.take (j + 1) = C.take j ++ [x] := by rw [List.take_add_one, hx]; rfl
          have HT := Lib.hid hT
          have q0 : wr.cell? ⟨w2.heap.size, 1, none⟩ = some v := HG.out.at_ 1 rfl
          have hlr : w2.heap.size < wr.heap.size := HG.out.lt
          clear hu hx1 hx hT hB
          go_wp2_with fail
          refine wp_region_held_drew (S := (fun _ => True)) (by kernel_rfl) (trivial) (fun hHeld => ?_)
          (refine wpAnyH_take (i := 0) (v := ?hv16) rfl (by kernel_rfl) (by kernel_rfl) (by kernel_rfl) (fun _ _ _ h => h) (Or.inl ⟨by kernel_rfl, ?hy16⟩) hHeld ?hr16; case hy16 => (intro w hSw; (try dsimp only at hSw); go_simp; try with_reducible rfl))
          simp only [Act.put, List.getElem_toArray, List.getElem_cons_succ, List.getElem_cons_zero, List.setIfInBounds_toArray, List.set_cons_zero, List.set_cons_succ]
          (refine wpAnyH_take (i := 1) (v := ?hv17) rfl (by kernel_rfl) (by kernel_rfl) (by kernel_rfl) (fun _ _ _ h => h) (Or.inl ⟨by kernel_rfl, ?hy17⟩) hHeld ?hr17; case hy17 => (intro w hSw; (try dsimp only at hSw); go_simp; try with_reducible rfl))
          simp only [Act.put, List.getElem_toArray, List.getElem_cons_succ, List.getElem_cons_zero, List.setIfInBounds_toArray, List.set_cons_zero, List.set_cons_succ]
          (refine wpAnyH_take (i := 2) (v := ?hv18) rfl (by kernel_rfl) (by kernel_rfl) (by kernel_rfl) (fun _ _ _ h => h) (Or.inl ⟨by kernel_rfl, ?hy18⟩) hHeld ?hr18; case hy18 => (intro w hSw; (try dsimp only at hSw); go_simp; try with_reducible rfl))
          simp only [Act.put, List.getElem_toArray, List.getElem_cons_succ, List.getElem_cons_zero, List.setIfInBounds_toArray, List.set_cons_zero, List.set_cons_succ]
          (refine wpAnyH_take (i := 3) (v := ?hv19) rfl (by kernel_rfl) (by kernel_rfl) (by kernel_rfl) (fun _ _ _ h => h) (Or.inl ⟨by kernel_rfl, ?hy19⟩) hHeld ?hr19; case hy19 => (intro w hSw; (try dsimp only at hSw); go_simp; try with_reducible rfl))
          simp only [Act.put, List.getElem_toArray, List.getElem_cons_succ, List.getElem_cons_zero, List.setIfInBounds_toArray, List.set_cons_zero, List.set_cons_succ]
          (refine wpAnyH_take (i := 5) (v := ?hv20) rfl (by kernel_rfl) (by kernel_rfl) (by kernel_rfl) (fun _ _ _ h => h) (Or.inl ⟨by kernel_rfl, ?hy20⟩) hHeld ?hr20; case hy20 => (intro w hSw; (try dsimp only at hSw); go_simp; try with_reducible rfl))
          simp only [Act.put, List.getElem_toArray, List.getElem_cons_succ, List.getElem_cons_zero, List.setIfInBounds_toArray, List.set_cons_zero, List.set_cons_succ]
          refine wpAnyH_ready (rs := [4, 6]) (by kernel_rfl) (by simp) ?_
          refine AllReadyH.cons rfl (fun K hK => ?_) (AllReadyH.cons rfl (fun K hK => ?_) (AllReadyH.nil))
          · skip
            go_simp
            refine hK.out _ _ trivial (fun hHeld => ?_)
            clear hK K
            try simp only [Act.put, List.getElem_toArray, List.getElem_cons_succ, List.getElem_cons_zero, List.setIfInBounds_toArray, List.set_cons_zero, List.set_cons_succ]
            refine wpAnyH_ready (rs := [6]) (by kernel_rfl) (by simp) ?_
            refine AllReadyH.cons rfl (fun K hK => ?_) (AllReadyH.nil)
            go_simp
            go_at_call 152
            refine (clone_lab (by omega) HK.out).mono ?_
            intro e w5 h
            obtain ⟨a2, c2, rfl, ho2, hb⟩ := newS_elim h
            have hb5 : Below wr.heap.size wr w5 := ((Below.refl _ _).drew).trans hb
            have hbA : Below w5.heap.size w5 (w5.alloc (.cells #[.slice a2 x.length c2] 120)) := (Below.refl _ _).alloc (Nat.le_refl _) _
            have hb5a := hb5.trans (hbA.mono hb5.size)
            have hrow := Blk.new w5 120 #[.slice a2 x.length c2]
            have hA3 := (HA2.out.call (Sl_ok R_Label_ok) hb5).call (Sl_ok R_Label_ok) hbA
            have hleJ := HA2.out.le
            obtain ⟨iS, hiS, hzS1, hsS, hbS⟩ := m_infoLS
            obtain ⟨v', w6, ys', Sg', hr9, hA4, hg4, hob, hsg⟩ := hA3.app2 (P := Try.prog) (ty := 63) (c := 1) (Sl_ok R_Label_ok) Try.underlying63 hiS hzS1 hsS hbS rfl (by decide) (x := x) (us := [.slice a2 x.length c2]) (Sx := Rg wr.drew.heap.size w5.heap.size) (blk := w5.heap.size) (fun p y hp => hrow.at_ p (by simpa using hp)) ⟨a2, c2, rfl, ho2.keep R_Label_ok (fun q hq => hbA.block q hq.2)⟩ (fun p hp => ⟨Nat.le_trans hleJ hp.1, Nat.lt_of_lt_of_le hp.2 hbA.size⟩) HHJ.out (by rw [List.length_take]; unfold maxLen; omega) (by rw [List.length_take]; omega)
            obtain ⟨a6, n6, c6, rfl⟩ : ∃ a n c, v' = .slice a n c := by
              obtain ⟨a, c, e⟩ := hA4.isSlice
              exact ⟨a, _, c, e⟩
            have HR9 := Lib.hid hr9
            have hown : ∀ p, v.ownBlock = some p → wq.heap.size ≤ p := fun p hp => (HA2.out.blk p hp).1
            have hs5a := hb5a.size
            have hwqr : wq.heap.size ≤ wr.heap.size := Nat.le_trans HHJ.out hleJ
            have hbw6 : Below wq.heap.size wr w6 := (hb5a.mono hwqr).trans (below_own hg4 hown (Nat.le_trans hwqr hb5a.size))
            have R6 := Lib.hid (show Blk w6 w2.heap.size 140 #[.slice ja2 L.length jc2, v, .int .i64 now] from (hbw6.block w2.heap.size (by omega)).trans HG.out)
            have q5 : w5.cell? ⟨w2.heap.size, 1, none⟩ = some v := (HG.out.call hb5).at_ 1 rfl
            have q6 : (w5.alloc (.cells #[.slice a2 x.length c2] 120)).cell? ⟨w2.heap.size, 1, none⟩ = some v := (HG.out.call hb5a).at_ 1 rfl
            have q7 : w6.cell? ⟨w2.heap.size, 1, none⟩ = some v := R6.out.at_ 1 rfl
            have f7 : w6.frozen? ⟨w2.heap.size, 1, none⟩ = false := R6.out.soft 1
            have HA7 := Lib.hid (hA4.mv (w' := w6.setCell ⟨w2.heap.size, 1, none⟩ (.slice a6 n6 c6)) (Sl_ok R_Label_ok) (by simp [World.setCell]) (fun p hp _ => Below.heap_setCell w6 ⟨w2.heap.size, 1, none⟩ _ p (by show p ≠ w2.heap.size; omega)))
            have HJ7 := Lib.hid ((HA.out.mv (w' := w6) R_Job_ok hbw6.size (fun p hp hp2 => hbw6.block p (by omega))).mv2 (w' := w6.setCell ⟨w2.heap.size, 1, none⟩ (.slice a6 n6 c6)) R_Job_ok (by simp [World.setCell]) (fun p hp => Below.heap_setCell w6 ⟨w2.heap.size, 1, none⟩ _ p (by show p ≠ w2.heap.size; have := HBK.out p hp; omega)) (fun i p hp => Below.heap_setCell w6 ⟨w2.heap.size, 1, none⟩ _ p (by show p ≠ w2.heap.size; exact fun e => HNG.out i (e ▸ hp))))
            have HH7 := Lib.hid (show wq.heap.size ≤ w6.heap.size from Nat.le_trans hwqr hbw6.size)
            have HB7 := Lib.hid ((HB.out.trans (hbw6.mono (by omega))).setCell (p := ⟨w2.heap.size, 1, none⟩) (by show W.heap.size ≤ w2.heap.size; omega) (.slice a6 n6 c6))
            have HP7 := Lib.hid (show Blk _ W.heap.size 65 _ from Blk.far (show Blk w6 W.heap.size 65 _ from (hbw6.block W.heap.size (by omega)).trans HP.out) (b := w2.heap.size) (o := 1) (by omega) (.slice a6 n6 c6))
            have HG7 := Lib.hid (show Blk (w6.setCell ⟨w2.heap.size, 1, none⟩ (.slice a6 n6 c6)) w2.heap.size 140 #[.slice ja2 L.length jc2, .slice a6 n6 c6, .int .i64 now] from (R6.out.set 1 (.slice a6 n6 c6)).as rfl)
            clear hb ho2 hb5 hbA hb5a hrow hA3 hleJ hiS hzS1 hsS hbS hr9 hA4 hg4 hown hob hsg hs5a hbw6
            refine hK.out _ _ trivial (fun hHeld => ?_)
            clear h
            clear hK K
            try simp only [Act.put, List.getElem_toArray, List.getElem_cons_succ, List.getElem_cons_zero, List.setIfInBounds_toArray, List.set_cons_zero, List.set_cons_succ]
            refine wpAnyH_ready (rs := [7]) (by kernel_rfl) (by simp) ?_
            refine AllReadyH.cons rfl (fun K hK => ?_) (AllReadyH.nil)
            go_simp
            refine hK.out _ _ trivial (fun hHeld => ?_)
            clear hK K
            try simp only [Act.put, List.getElem_toArray, List.getElem_cons_succ, List.getElem_cons_zero, List.setIfInBounds_toArray, List.set_cons_zero, List.set_cons_succ]
            refine wpAnyH_ready (rs := [8]) (by kernel_rfl) (by simp) ?_
            refine AllReadyH.cons rfl (fun K hK => ?_) (AllReadyH.nil)
            refine step_app rfl (.tmp 47) (.tmp 50) 63 rfl rfl rfl HR9.out ?_
            refine hK.out _ _ trivial (fun hHeld => ?_)
            clear hK K
            try simp only [Act.put, List.getElem_toArray, List.getElem_cons_succ, List.getElem_cons_zero, List.setIfInBounds_toArray, List.set_cons_zero, List.set_cons_succ]
            (refine wpAnyH_take (i := 9) (v := ?hv21) rfl (by kernel_rfl) (by kernel_rfl) (by kernel_rfl) (fun _ _ _ h => h) (Or.inl ⟨by kernel_rfl, ?hy21⟩) hHeld ?hr21; case hy21 => (intro w hSw; (try dsimp only at hSw); go_simp; try with_reducible rfl))
            simp only [Act.put, List.getElem_toArray, List.getElem_cons_succ, List.getElem_cons_zero, List.setIfInBounds_toArray, List.set_cons_zero, List.set_cons_succ]
            (refine wpAnyH_take (i := 10) (v := ?hv22) rfl (by kernel_rfl) (by kernel_rfl) (by kernel_rfl) (fun _ _ _ h => h) (Or.inl ⟨by kernel_rfl, ?hy22⟩) hHeld ?hr22; case hy22 => (intro w hSw; (try dsimp only at hSw); go_simp; try with_reducible rfl))
            simp only [Act.put, List.getElem_toArray, List.getElem_cons_succ, List.getElem_cons_zero, List.setIfInBounds_toArray, List.set_cons_zero, List.set_cons_succ]
            refine wpAnyH_ready (rs := [11]) (by kernel_rfl) (by simp) ?_
            refine AllReadyH.cons rfl (fun K hK => ?_) (AllReadyH.nil)
            go_simp
            refine hK.out _ _ trivial (fun hHeld => ?_)
            clear hK K
            try simp only [Act.put, List.getElem_toArray, List.getElem_cons_succ, List.getElem_cons_zero, List.setIfInBounds_toArray, List.set_cons_zero, List.set_cons_succ]
            refine wpAnyH_done (by kernel_rfl) ?_ _
            clear q0 q5 q6 q7 f7 hHeld
            go_wp2
            go_roundw
            case rel => exact ⟨j + 1, by omega, by go_num, HB7.out, HP7, HJ7, _, w6.heap.size, ys', Sg', HG7, HH7, Lib.hid (by rw [HT.out]; exact HA7.out)⟩
            case measure => simp [intOf]; omega
          · skip
            go_simp
            go_at_call 152
            refine (clone_lab (by omega) HK.out).mono ?_
            intro e w5 h
            obtain ⟨a2, c2, rfl, ho2, hb⟩ := newS_elim h
            have hb5 : Below wr.heap.size wr w5 := ((Below.refl _ _).drew).trans hb
            have hbA : Below w5.heap.size w5 (w5.alloc (.cells #[.slice a2 x.length c2] 120)) := (Below.refl _ _).alloc (Nat.le_refl _) _
            have hb5a := hb5.trans (hbA.mono hb5.size)
            have hrow := Blk.new w5 120 #[.slice a2 x.length c2]
            have hA3 := (HA2.out.call (Sl_ok R_Label_ok) hb5).call (Sl_ok R_Label_ok) hbA
            have hleJ := HA2.out.le
            obtain ⟨iS, hiS, hzS1, hsS, hbS⟩ := m_infoLS
            obtain ⟨v', w6, ys', Sg', hr9, hA4, hg4, hob, hsg⟩ := hA3.app2 (P := Try.prog) (ty := 63) (c := 1) (Sl_ok R_Label_ok) Try.underlying63 hiS hzS1 hsS hbS rfl (by decide) (x := x) (us := [.slice a2 x.length c2]) (Sx := Rg wr.drew.heap.size w5.heap.size) (blk := w5.heap.size) (fun p y hp => hrow.at_ p (by simpa using hp)) ⟨a2, c2, rfl, ho2.keep R_Label_ok (fun q hq => hbA.block q hq.2)⟩ (fun p hp => ⟨Nat.le_trans hleJ hp.1, Nat.lt_of_lt_of_le hp.2 hbA.size⟩) HHJ.out (by rw [List.length_take]; unfold maxLen; omega) (by rw [List.length_take]; omega)
            obtain ⟨a6, n6, c6, rfl⟩ : ∃ a n c, v' = .slice a n c := by
              obtain ⟨a, c, e⟩ := hA4.isSlice
              exact ⟨a, _, c, e⟩
            have HR9 := Lib.hid hr9
            have hown : ∀ p, v.ownBlock = some p → wq.heap.size ≤ p := fun p hp => (HA2.out.blk p hp).1
            have hs5a := hb5a.size
            have hwqr : wq.heap.size ≤ wr.heap.size := Nat.le_trans HHJ.out hleJ
            have hbw6 : Below wq.heap.size wr w6 := (hb5a.mono hwqr).trans (below_own hg4 hown (Nat.le_trans hwqr hb5a.size))
            have R6 := Lib.hid (show Blk w6 w2.heap.size 140 #[.slice ja2 L.length jc2, v, .int .i64 now] from (hbw6.block w2.heap.size (by omega)).trans HG.out)
            have q5 : w5.cell? ⟨w2.heap.size, 1, none⟩ = some v := (HG.out.call hb5).at_ 1 rfl
            have q6 : (w5.alloc (.cells #[.slice a2 x.length c2] 120)).cell? ⟨w2.heap.size, 1, none⟩ = some v := (HG.out.call hb5a).at_ 1 rfl
            have q7 : w6.cell? ⟨w2.heap.size, 1, none⟩ = some v := R6.out.at_ 1 rfl
            have f7 : w6.frozen? ⟨w2.heap.size, 1, none⟩ = false := R6.out.soft 1
            have HA7 := Lib.hid (hA4.mv (w' := w6.setCell ⟨w2.heap.size, 1, none⟩ (.slice a6 n6 c6)) (Sl_ok R_Label_ok) (by simp [World.setCell]) (fun p hp _ => Below.heap_setCell w6 ⟨w2.heap.size, 1, none⟩ _ p (by show p ≠ w2.heap.size; omega)))
            have HJ7 := Lib.hid ((HA.out.mv (w' := w6) R_Job_ok hbw6.size (fun p hp hp2 => hbw6.block p (by omega))).mv2 (w' := w6.setCell ⟨w2.heap.size, 1, none⟩ (.slice a6 n6 c6)) R_Job_ok (by simp [World.setCell]) (fun p hp => Below.heap_setCell w6 ⟨w2.heap.size, 1, none⟩ _ p (by show p ≠ w2.heap.size; have := HBK.out p hp; omega)) (fun i p hp => Below.heap_setCell w6 ⟨w2.heap.size, 1, none⟩ _ p (by show p ≠ w2.heap.size; exact fun e => HNG.out i (e ▸ hp))))
            have HH7 := Lib.hid (show wq.heap.size ≤ w6.heap.size from Nat.le_trans hwqr hbw6.size)
            have HB7 := Lib.hid ((HB.out.trans (hbw6.mono (by omega))).setCell (p := ⟨w2.heap.size, 1, none⟩) (by show W.heap.size ≤ w2.heap.size; omega) (.slice a6 n6 c6))
            have HP7 := Lib.hid (show Blk _ W.heap.size 65 _ from Blk.far (show Blk w6 W.heap.size 65 _ from (hbw6.block W.heap.size (by omega)).trans HP.out) (b := w2.heap.size) (o := 1) (by omega) (.slice a6 n6 c6))
            have HG7 := Lib.hid (show Blk (w6.setCell ⟨w2.heap.size, 1, none⟩ (.slice a6 n6 c6)) w2.heap.size 140 #[.slice ja2 L.length jc2, .slice a6 n6 c6, .int .i64 now] from (R6.out.set 1 (.slice a6 n6 c6)).as rfl)
            clear hb ho2 hb5 hbA hb5a hrow hA3 hleJ hiS hzS1 hsS hbS hr9 hA4 hg4 hown hob hsg hs5a hbw6
            refine hK.out _ _ trivial (fun hHeld => ?_)
            clear h
            clear hK K
            try simp only [Act.put, List.getElem_toArray, List.getElem_cons_succ, List.getElem_cons_zero, List.setIfInBounds_toArray, List.set_cons_zero, List.set_cons_succ]
            refine wpAnyH_ready (rs := [4, 7]) (by kernel_rfl) (by simp) ?_
            refine AllReadyH.cons rfl (fun K hK => ?_) (AllReadyH.cons rfl (fun K hK => ?_) (AllReadyH.nil))
            · skip
              go_simp
              refine hK.out _ _ trivial (fun hHeld => ?_)
              clear hK K
              try simp only [Act.put, List.getElem_toArray, List.getElem_cons_succ, List.getElem_cons_zero, List.setIfInBounds_toArray, List.set_cons_zero, List.set_cons_succ]
              refine wpAnyH_ready (rs := [7]) (by kernel_rfl) (by simp) ?_
              refine AllReadyH.cons rfl (fun K hK => ?_) (AllReadyH.nil)
              go_simp
              refine hK.out _ _ trivial (fun hHeld => ?_)
              clear hK K
              try simp only [Act.put, List.getElem_toArray, List.getElem_cons_succ, List.getElem_cons_zero, List.setIfInBounds_toArray, List.set_cons_zero, List.set_cons_succ]
              refine wpAnyH_ready (rs := [8]) (by kernel_rfl) (by simp) ?_
              refine AllReadyH.cons rfl (fun K hK => ?_) (AllReadyH.nil)
              refine step_app rfl (.tmp 47) (.tmp 50) 63 rfl rfl rfl HR9.out ?_
              refine hK.out _ _ trivial (fun hHeld => ?_)
              clear hK K
              try simp only [Act.put, List.getElem_toArray, List.getElem_cons_succ, List.getElem_cons_zero, List.setIfInBounds_toArray, List.set_cons_zero, List.set_cons_succ]
              (refine wpAnyH_take (i := 9) (v := ?hv23) rfl (by kernel_rfl) (by kernel_rfl) (by kernel_rfl) (fun _ _ _ h => h) (Or.inl ⟨by kernel_rfl, ?hy23⟩) hHeld ?hr23; case hy23 => (intro w hSw; (try dsimp only at hSw); go_simp; try with_reducible rfl))
              simp only [Act.put, List.getElem_toArray, List.getElem_cons_succ, List.getElem_cons_zero, List.setIfInBounds_toArray, List.set_cons_zero, List.set_cons_succ]
              (refine wpAnyH_take (i := 10) (v := ?hv24) rfl (by kernel_rfl) (by kernel_rfl) (by kernel_rfl) (fun _ _ _ h => h) (Or.inl ⟨by kernel_rfl, ?hy24⟩) hHeld ?hr24; case hy24 => (intro w hSw; (try dsimp only at hSw); go_simp; try with_reducible rfl))
              simp only [Act.put, List.getElem_toArray, List.getElem_cons_succ, List.getElem_cons_zero, List.setIfInBounds_toArray, List.set_cons_zero, List.set_cons_succ]
              refine wpAnyH_ready (rs := [11]) (by kernel_rfl) (by simp) ?_
              refine AllReadyH.cons rfl (fun K hK => ?_) (AllReadyH.nil)
              go_simp
              refine hK.out _ _ trivial (fun hHeld => ?_)
              clear hK K
              try simp only [Act.put, List.getElem_toArray, List.getElem_cons_succ, List.getElem_cons_zero, List.setIfInBounds_toArray, List.set_cons_zero, List.set_cons_succ]
              refine wpAnyH_done (by kernel_rfl) ?_ _
              clear q0 q5 q6 q7 f7 hHeld
              go_wp2
              go_roundw
              case rel => exact ⟨j + 1, by omega, by go_num, HB7.out, HP7, HJ7, _, w6.heap.size, ys', Sg', HG7, HH7, Lib.hid (by rw [HT.out]; exact HA7.out)⟩
              case measure => simp [intOf]; omega
            · skip
              go_simp
              refine hK.out _ _ trivial (fun hHeld => ?_)
              clear hK K
              try simp only [Act.put, List.getElem_toArray, List.getElem_cons_succ, List.getElem_cons_zero, List.setIfInBounds_toArray, List.set_cons_zero, List.set_cons_succ]
              refine wpAnyH_ready (rs := [4]) (by kernel_rfl) (by simp) ?_
              refine AllReadyH.cons rfl (fun K hK => ?_) (AllReadyH.nil)
              go_simp
              refine hK.out _ _ trivial (fun hHeld => ?_)
              clear hK K
              try simp only [Act.put, List.getElem_toArray, List.getElem_cons_succ, List.getElem_cons_zero, List.setIfInBounds_toArray, List.set_cons_zero, List.set_cons_succ]
              refine wpAnyH_ready (rs := [8]) (by kernel_rfl) (by simp) ?_
              refine AllReadyH.cons rfl (fun K hK => ?_) (AllReadyH.nil)
              refine step_app rfl (.tmp 47) (.tmp 50) 63 rfl rfl rfl HR9.out ?_
              refine hK.out _ _ trivial (fun hHeld => ?_)
              clear hK K
              try simp only [Act.put, List.getElem_toArray, List.getElem_cons_succ, List.getElem_cons_zero, List.setIfInBounds_toArray, List.set_cons_zero, List.set_cons_succ]
              (refine wpAnyH_take (i := 9) (v := ?hv25) rfl (by kernel_rfl) (by kernel_rfl) (by kernel_rfl) (fun _ _ _ h => h) (Or.inl ⟨by kernel_rfl, ?hy25⟩) hHeld ?hr25; case hy25 => (intro w hSw; (try dsimp only at hSw); go_simp; try with_reducible rfl))
              simp only [Act.put, List.getElem_toArray, List.getElem_cons_succ, List.getElem_cons_zero, List.setIfInBounds_toArray, List.set_cons_zero, List.set_cons_succ]
              (refine wpAnyH_take (i := 10) (v := ?hv26) rfl (by kernel_rfl) (by kernel_rfl) (by kernel_rfl) (fun _ _ _ h => h) (Or.inl ⟨by kernel_rfl, ?hy26⟩) hHeld ?hr26; case hy26 => (intro w hSw; (try dsimp only at hSw); go_simp; try with_reducible rfl))
              simp only [Act.put, List.getElem_toArray, List.getElem_cons_succ, List.getElem_cons_zero, List.setIfInBounds_toArray, List.set_cons_zero, List.set_cons_succ]
              refine wpAnyH_ready (rs := [11]) (by kernel_rfl) (by simp) ?_
              refine AllReadyH.cons rfl (fun K hK => ?_) (AllReadyH.nil)
              go_simp
              refine hK.out _ _ trivial (fun hHeld => ?_)
              clear hK K
              try simp only [Act.put, List.getElem_toArray, List.getElem_cons_succ, List.getElem_cons_zero, List.setIfInBounds_toArray, List.set_cons_zero, List.set_cons_succ]
              refine wpAnyH_done (by kernel_rfl) ?_ _
              clear q0 q5 q6 q7 f7 hHeld
              go_wp2
              go_roundw
              case rel => exact ⟨j + 1, by omega, by go_num, HB7.out, HP7, HJ7, _, w6.heap.size, ys', Sg', HG7, HH7, Lib.hid (by rw [HT.out]; exact HA7.out)⟩
              case measure => simp [intOf]; omega
        · have hdj : decide ((j : Int) < (C.length : Int)) = false := decide_eq_false (by omega)
          have hA2 : App (Sl R_Label) wr wq.heap.size hh 120 v C ys Sg := by have h := HA2.out; rw [List.take_of_length_le (by omega)] at h; exact h
          obtain ⟨ca', cc', hv⟩ := hA2.isSlice
          subst hv
          have HO2 := Lib.hid hA2
          have hhj := HHJ.out
          clear hB hA2
          go_wp2
          go_ret
          exact ⟨w2.heap.size, rfl, ⟨ca', cc', ja2, jc2, W1.heap.size, hi, wq.heap.size, hh, _, _, _, _, HG.out, HA.out, HO2.out, by omega, by omega, by omega, hhj, by omega, by omega, fun k hk h2 => by have h3 := HA.out.bears hk; have h4 := h2.1; omega, fun hk => by rcases hk with hk | ⟨i, hk⟩; exact (by have := HBK.out _ hk; omega); exact HNG.out i hk⟩, HB.out⟩
end Go.Proofs.Ytjpkeofpcpaoaaa.RepC
