/- Of this claim's texts the part 18: CfV MlP. -/
import Derived.Test.YtlgflddljhldhaaGreatPN16
import Derived.Test.YtlgflddljhldhaaGreatPN17
section
namespace Go.Proofs.YtlgflddljhldhaaGreat.RepC
open Go.RowKit RowC ValC SpanC KeptC CfC
set_option linter.unusedVariables false
set_option linter.unusedSimpArgs false
noncomputable def cfgB (C : List (List D_Label)) (P : List D_Pair) (Q : List D_Quota) (hf : Int) : Bool := by classical exact decide (CfgR C P Q hf)
theorem cfgB_iff {C : List (List D_Label)} {P : List D_Pair} {Q : List D_Quota} {hf : Int} : cfgB C P Q hf = true ↔ CfgR C P Q hf := by unfold cfgB; simp
noncomputable def pairV (C : List (List D_Label)) (P : List D_Pair) (Q : List D_Quota) (hf : Int) (f t : D_Label) : Int := if cfgB C P Q hf then ixP P f t else -1
set_option maxRecDepth 100000 in
set_option maxHeartbeats 1600000 in
theorem config_spec {C : List (List D_Label)} {P : List D_Pair} {Q : List D_Quota} {hf : Int} {ca pa qa : Option Addr} {cc pc qc : Nat} {W : World} (hC : RdSl (Sl R_Label) W W.heap.size C ca cc) (hP : RdSl R_Pair W W.heap.size P pa pc) (hQ : RdSl R_Quota W W.heap.size Q qa qc) :
    Calls Tryz.prog 73 #[.agg #[.slice ca C.length cc, .slice pa P.length pc, .slice qa Q.length qc, .int .i64 hf]] W (IsB (cfgB C P Q hf) W) := by
  obtain ⟨z, hz⟩ : ∃ z, cfgB C P Q hf = z := ⟨_, rfl⟩
  have HZ := Lib.hid (show z = true ↔ CfgR C P Q hf from by rw [← hz]; exact cfgB_iff)
  rw [hz]
  clear hz
  refine Calls.mono ?_ fun e w' h => resB_at HZ.out h
  obtain ⟨zh, hzh⟩ : ∃ z, isB hf 1 9 = z := ⟨_, rfl⟩
  have HH := Lib.hid hzh
  clear hzh HZ
  obtain ⟨M, hM⟩ : ∃ M, labsOf C = M := ⟨_, rfl⟩
  have HMr := Lib.hid (show ∀ a ∈ M, LabC.rP a.1 a.2 from by rw [← hM]; exact fun a ha => (mem_labs.1 ha).1)
  have HMs := Lib.hid (show M.Pairwise ltB from by rw [← hM]; exact labs_sorted C 32)
  have HM := Lib.hid hM
  clear hM
  obtain ⟨w0, hw0⟩ : ∃ w, w = W.alloc (.cells #[.slice ca C.length cc, .slice pa P.length pc, .slice qa Q.length qc, .int .i64 hf] 44) := ⟨_, rfl⟩
  have hb0 : Below W.heap.size W w0 := by rw [hw0]; exact (Below.refl _ _).alloc (Nat.le_refl _) _
  have x0 : Blk w0 (W.heap.size) 44 #[.slice ca C.length cc, .slice pa P.length pc, .slice qa Q.length qc, .int .i64 hf] := by
    have h9 := Blk.new W 44 #[.slice ca C.length cc, .slice pa P.length pc, .slice qa Q.length qc, .int .i64 hf]
    try simp only [World.size_alloc] at h9
    rw [hw0]; exact h9
  have X0 := Lib.hid x0
  have HC := Lib.hid (rd_mv (Sl_ok R_Label_ok) hC hb0)
  have HP := Lib.hid (rd_mv R_Pair_ok hP hb0)
  have HQ := Lib.hid (rd_mv R_Quota_ok hQ hb0)
  have HB0 := Lib.hid hb0
  have hz0 := hb0.size
  clear hb0 hC hP hQ x0
  go_enter Tryz.func73, Tryz.ntmps73
  have qX0_0 := X0.out.at_ 0 rfl
  have qX0_1 := X0.out.at_ 1 rfl
  have qX0_2 := X0.out.at_ 2 rfl
  have qX0_3 := X0.out.at_ 3 rfl
  go_wp2_with fail
  rw [← hw0]
  clear hw0
  refine (clear_spec HC.out).mono ?_
  intro e v1 h
  obtain ⟨z1, rfl, hz1, hb1⟩ := resB_elim h
  have HZ1 := Lib.hid hz1
  have HC := Lib.hid (rd_mv (Sl_ok R_Label_ok) HC.out hb1)
  have HP := Lib.hid (rd_mv R_Pair_ok HP.out hb1)
  have HQ := Lib.hid (rd_mv R_Quota_ok HQ.out hb1)
  have X0 := Lib.hid (X0.out.call hb1)
  have HB0 := Lib.hid (HB0.out.trans (hb1.mono HB0.out.size))
  clear h hz1 hb1 qX0_0 qX0_1 qX0_2 qX0_3
  have qX0_0 := X0.out.at_ 0 rfl
  have qX0_1 := X0.out.at_ 1 rfl
  have qX0_2 := X0.out.at_ 2 rfl
  have qX0_3 := X0.out.at_ 3 rfl
  cases z1 with
  | false =>
    have HN := Lib.hid (show ¬ CfgR C P Q hf from fun h => by have := HZ1.out.2 (h.1); cases this)
    go_wp2
    go_ret
    exact resB_no HN.out HB0.out
  | true =>
  have HY1 := Lib.hid (HZ1.out.1 rfl)
  go_wp2_with fail
  refine (is_at _ _ _ HH.out _).mono ?_
  rintro e w9 ⟨rfl, rfl⟩
  cases zh with
  | false =>
    have HN := Lib.hid (show ¬ CfgR C P Q hf from fun h => by have := h.2.1; rw [HH.out] at this; cases this)
    go_wp2
    go_ret
    exact resB_no HN.out HB0.out
  | true =>
  go_wp2_with fail
  have hlb := labs_spec HC.out
  rw [HM.out] at hlb
  refine hlb.mono ?_
  intro e v2 h
  obtain ⟨la, lc, rfl, ho, hb2⟩ := newS_elim h
  have HL := Lib.hid (ho.rd R_Label_ok (B := v2.heap.size) fun k hk => hk.2)
  have HC := Lib.hid (rd_mv (Sl_ok R_Label_ok) HC.out hb2)
  have HP := Lib.hid (rd_mv R_Pair_ok HP.out hb2)
  have HQ := Lib.hid (rd_mv R_Quota_ok HQ.out hb2)
  have X0 := Lib.hid (X0.out.call hb2)
  have HB0 := Lib.hid (HB0.out.trans (hb2.mono HB0.out.size))
  clear h ho hlb hb2 qX0_0 qX0_1 qX0_2 qX0_3
  have qX0_0 := X0.out.at_ 0 rfl
  have qX0_1 := X0.out.at_ 1 rfl
  have qX0_2 := X0.out.at_ 2 rfl
  have qX0_3 := X0.out.at_ 3 rfl
  by_cases h8 : M.length ≤ 8
  rotate_left
  · have hd : decide ((M.length : Int) ≤ 8) = false := decide_eq_false (by omega)
    have hd' : decide (M.length ≤ 8) = false := decide_eq_false h8
    have HN := Lib.hid (show ¬ CfgR C P Q hf from fun h => h8 (by rw [← HM.out]; exact h.2.2.1))
    go_wp2
    go_ret
    exact resB_no HN.out HB0.out
  have hd : decide ((M.length : Int) ≤ 8) = true := decide_eq_true (by omega)
  have hd' : decide (M.length ≤ 8) = true := decide_eq_true h8
  go_wp2_with fail
  refine (pairs_spec HL.out HP.out).mono ?_
  intro e v3 h
  obtain ⟨z3, rfl, hz3, hb3⟩ := resB_elim h
  have HZ3 := Lib.hid hz3
  have HC := Lib.hid (rd_mv (Sl_ok R_Label_ok) HC.out hb3)
  have HP := Lib.hid (rd_mv R_Pair_ok HP.out hb3)
  have HQ := Lib.hid (rd_mv R_Quota_ok HQ.out hb3)
  have HL := Lib.hid (rd_mv R_Label_ok HL.out hb3)
  have X0 := Lib.hid (X0.out.call hb3)
  have HB0 := Lib.hid (HB0.out.trans (hb3.mono HB0.out.size))
  clear h hz3 hb3 qX0_0 qX0_1 qX0_2 qX0_3
  have qX0_0 := X0.out.at_ 0 rfl
  have qX0_1 := X0.out.at_ 1 rfl
  have qX0_2 := X0.out.at_ 2 rfl
  have qX0_3 := X0.out.at_ 3 rfl
  cases z3 with
  | false =>
    have HN := Lib.hid (show ¬ CfgR C P Q hf from fun h => by have := HZ3.out.2 (by rw [← HM.out]; exact h.2.2.2.1); cases this)
    go_wp2
    go_ret
    exact resB_no HN.out HB0.out
  | true =>
  have HY3 := Lib.hid (HZ3.out.1 rfl)
  go_wp2_with fail
  refine (quotas_spec HMr.out HMs.out h8 HL.out HQ.out).mono ?_
  intro e v4 h
  obtain ⟨z4, rfl, hz4, hb4⟩ := resB_elim h
  have HZ4 := Lib.hid hz4
  have HC := Lib.hid (rd_mv (Sl_ok R_Label_ok) HC.out hb4)
  have HP := Lib.hid (rd_mv R_Pair_ok HP.out hb4)
  have HQ := Lib.hid (rd_mv R_Quota_ok HQ.out hb4)
  have HL := Lib.hid (rd_mv R_Label_ok HL.out hb4)
  have X0 := Lib.hid (X0.out.call hb4)
  have HB0 := Lib.hid (HB0.out.trans (hb4.mono HB0.out.size))
  clear h hz4 hb4 qX0_0 qX0_1 qX0_2 qX0_3
  have qX0_0 := X0.out.at_ 0 rfl
  have qX0_1 := X0.out.at_ 1 rfl
  have qX0_2 := X0.out.at_ 2 rfl
  have qX0_3 := X0.out.at_ 3 rfl
  cases z4 with
  | false =>
    have HN := Lib.hid (show ¬ CfgR C P Q hf from fun h => by have := HZ4.out.2 (by rw [← HM.out]; exact h.2.2.2.2); cases this)
    go_wp2
    go_ret
    exact resB_no HN.out HB0.out
  | true =>
  have HY4 := Lib.hid (HZ4.out.1 rfl)
  have HY := Lib.hid (show CfgR C P Q hf from ⟨HY1.out, HH.out, by rw [HM.out]; exact h8, by rw [HM.out]; exact HY3.out, by rw [HM.out]; exact HY4.out⟩)
  go_wp2
  go_ret
  exact resB_yes HY.out HB0.out
end Go.Proofs.YtlgflddljhldhaaGreat.RepC
end
section
namespace Go.Proofs.YtlgflddljhldhaaGreat.RepC
open Go.RowKit RowC ValC SpanC KeptC CfC
set_option linter.unusedVariables false
set_option linter.unusedSimpArgs false
def logAt (L : List D_Note) (i : Nat) (x : D_Note) : Prop := isB x.1 0 999900 = true ∧ (0 < i → ∀ y, L[i - 1]? = some y → y.1 ≤ x.1)
def LogR (L : List D_Note) : Prop := L.length ≤ 12 ∧ ∀ (i : Nat) x, L[i]? = some x → logAt L i x
def boxR (r : Int) (b : D_Box) : Prop := (b.1.length : Int) ≤ r ∧ (b.2.1.length : Int) ≤ r ∧ LogR b.2.2
def MailR (P : List D_Pair) (m : List D_Box) : Prop := m.length = P.length ∧ ∀ (i : Nat) x p, m[i]? = some x → P[i]? = some p → boxR p.2.2 x
def mailP (d : D_Config) (m : D_Mail) : Prop := CfgR d.1 d.2.1 d.2.2.1 d.2.2.2 ∧ MailR d.2.1 m
noncomputable def mailB (d : D_Config) (m : D_Mail) : Bool := by classical exact decide (mailP d m)
theorem mailB_iff {d : D_Config} {m : D_Mail} : mailB d m = true ↔ mailP d m := by unfold mailB; simp
def lastAt (L : List D_Note) : Nat → Int
  | 0 => 0
  | k + 1 => ((L[k]?).getD (0, 0)).1
theorem lastAt_succ {L : List D_Note} {k : Nat} {y : D_Note} (h : L[k]? = some y) : lastAt L (k + 1) = y.1 := by
  show ((L[k]?).getD (0, 0)).1 = y.1
  rw [h]; rfl
theorem logAt_iff {L : List D_Note} {k : Nat} {x : D_Note} (hx : L[k]? = some x) (hp : ∀ (j : Nat) y, j < k → L[j]? = some y → logAt L j y) : logAt L k x ↔ isB x.1 (lastAt L k) 999900 = true := by
  cases k with
  | zero => exact ⟨fun h => h.1, fun h => ⟨h, fun h => absurd h (Nat.lt_irrefl _)⟩⟩
  | succ k =>
    have hk : k < L.length := by have := (List.getElem?_eq_some_iff.1 hx).1; omega
    have hy := List.getElem?_eq_getElem hk
    have h0 := ((isB_iff _ _ _).1 (hp k _ (Nat.lt_succ_self k) hy).1).1
    rw [lastAt_succ hy]
    constructor
    · rintro ⟨h1, h2⟩
      have h3 := (isB_iff _ _ _).1 h1
      have h4 := h2 (Nat.succ_pos _) L[k] (by rw [Nat.add_sub_cancel]; exact hy)
      exact (isB_iff _ _ _).2 ⟨h4, h3.2⟩
    · intro h
      have h3 := (isB_iff _ _ _).1 h
      refine ⟨(isB_iff _ _ _).2 ⟨by omega, h3.2⟩, fun _ y hy' => ?_⟩
      rw [Nat.add_sub_cancel, hy] at hy'
      obtain rfl := Option.some.inj hy'
      exact h3.1
theorem mail_pair {d : D_Config} {m : D_Mail} (h : mailP d m) {i : Nat} {x : D_Box} (hx : m[i]? = some x) : ∃ p, d.2.1[i]? = some p ∧ boxR p.2.2 x ∧ 1 ≤ p.2.2 ∧ p.2.2 ≤ 3 := by
  have hi := (List.getElem?_eq_some_iff.1 hx).1
  have hi2 : i < d.2.1.length := by rw [← h.2.1]; exact hi
  have hp : d.2.1[i]? = some d.2.1[i] := List.getElem?_eq_getElem hi2
  have h1 := (isB_iff _ _ _).1 (h.1.2.2.2.1.2 i _ hp).2.2.2.1
  exact ⟨_, hp, h.2.2 i x _ hx hp, h1.1, h1.2⟩
theorem pairs4 {d : D_Config} {m : D_Mail} (h : mailP d m) : d.2.1.length ≤ 4 := h.1.2.2.2.1.1
end Go.Proofs.YtlgflddljhldhaaGreat.RepC
end
