/- The program's checkPool and PoolRight: contracts. -/
import Derived.Test.YtjpkeofpcpaoaaaPImB
import Derived.Test.YtjpkeofpcpaoaaaJobP
import Derived.Recover
import Derived.Defers
namespace Go.Proofs.Ytjpkeofpcpaoaaa.RepC
open Go.RowKit RowC ValC SpanC KeptC
set_option linter.unusedVariables false
set_option linter.unusedSimpArgs false

theorem now_im (n : Int) {b : Bool} (hb : isB n 0 999900 = b) (w : World) : Calls Try.prog 64 #[.int .i64 n] w fun e w' => e = .returned (.bool b) ∧ w = w' := by
  subst hb
  go_enter Try.func64, Try.ntmps64
  go_wp2_with (go_at_call 63; refine (is_impl _ _ _ _).mono ?_; rintro e w' ⟨rfl, rfl⟩)
  go_ret
  exact ⟨rfl, rfl⟩

set_option maxRecDepth 100000 in
set_option maxHeartbeats 3200000 in
theorem checkpool_spec {C : List (List D_Label)} {L : List D_Job} {now : Int} {ca ja : Option Addr} {cc jc : Nat} {W : World} (hC : RdSl (Sl R_Label) W W.heap.size C ca cc) (hL : RdSl R_Job W W.heap.size L ja jc) :
    Calls Try.prog 103 #[.agg #[.slice ca C.length cc, .slice ja L.length jc, .int .i64 now]] W (ResP (PoolR C L now) 1 W) := by
  have HC := Lib.hid hC
  have HL := Lib.hid hL
  have hcn : C.length ≤ 9223372036854775807 := by have h1 := hC.1; have h2 := hC.2.1; unfold maxLen at h2; omega
  clear hC hL
  have HB0 := Lib.hid (show Below W.heap.size W (W.alloc (.cells #[.slice ca C.length cc, .slice ja L.length jc, .int .i64 now] 65)) from (Below.refl _ _).alloc (Nat.le_refl _) _)
  have HP0 := Lib.hid (Blk.new W 65 #[.slice ca C.length cc, .slice ja L.length jc, .int .i64 now])
  obtain ⟨b1, hb1⟩ : ∃ b, isB (C.length : Int) 1 6 = b := ⟨_, rfl⟩
  have H1 := Lib.hid hb1
  obtain ⟨b3, hb3⟩ : ∃ b, isB now 0 999900 = b := ⟨_, rfl⟩
  have H3 := Lib.hid hb3
  clear hb1 hb3
  go_enter Try.func103, Try.ntmps103
  go_wp2_with fail
  refine (wi_at _ _ _ H1.out _).mono ?_
  rintro e w9 ⟨rfl, rfl⟩
  cases b1 with
  | false =>
    have HN := Lib.hid (show ¬ PoolR C L now from fun h => by
      have h2 : isB (C.length : Int) 1 6 = true := isB_io.2 ⟨by have := h.1.1; omega, by have := h.1.2.1; omega⟩
      rw [H1.out] at h2; cases h2)
    go_wp2_with fail
    refine (must_no _ _).mono ?_
    rintro e w9 ⟨rfl, rfl⟩
    go_wp2
    refine ⟨rfl, ?_⟩
    exact resP_no HN.out HB0.out
  | true =>
  have h16 : 1 ≤ C.length ∧ C.length ≤ 6 := by have := isB_io.1 H1.out; omega
  have H16 := Lib.hid h16
  go_wp2_with fail
  refine (must_yes _ _).mono ?_
  rintro e w9 ⟨rfl, rfl⟩
  go_wp2
  go_loopw [12] (fun i wr => ∃ k : Nat, k ≤ C.length ∧ i = .int .i64 k ∧ Hid (∀ (j : Nat) x, j < k → C[j]? = some x → ChainR x) ∧ Below W.heap.size W wr ∧ Hid (Blk wr W.heap.size 65 #[.slice ca C.length cc, .slice ja L.length jc, .int .i64 now])) (fun i _ => C.length - (intOf i).toNat)
  case atStart => exact ⟨0, Nat.zero_le _, rfl, Lib.hid fun j x h => absurd h (Nat.not_lt_zero _), HB0.out, HP0⟩
  case round =>
    obtain ⟨k, hk, rfl, HA, hB, HP⟩ := hrel
    have HB := Lib.hid hB
    have hsz := hB.size
    by_cases hlt : k < C.length
    · have hdl : decide ((k : Int) < (C.length : Int)) = true := decide_eq_true (by omega)
      obtain ⟨x, hx⟩ := el_some hlt
      have HX := Lib.hid hx
      obtain ⟨g, o, us, rfl, hg, hu, hr⟩ := (HC.out.below (Sl_ok R_Label_ok) hB).at_ hx
      obtain ⟨a1, c1, rfl, k_x⟩ := hr
      have e0 : wr.cell? ⟨g, o + k, none⟩ = some (.slice a1 x.length c1) := by simpa [size_SLab] using hu 0 _ rfl
      have hi0 : (0 : Int) ≤ (k : Int) := Int.natCast_nonneg _
      have hi1 : (k : Int) < (C.length : Int) := by omega
      have HK := Lib.hid (k_x.more R_Label_ok hsz)
      clear hB hx hu k_x
      go_wp2_with fail
      refine (chain_im HK.out).mono ?_
      intro e w1 h
      obtain ⟨z, rfl, hz, hb⟩ := resB_elim h
      have HB1 := Lib.hid (HB.out.trans (hb.mono hsz))
      have HP1 := Lib.hid (HP.out.call hb)
      have HZ := Lib.hid hz
      clear h hz hb
      cases z with
      | false =>
        have HN := Lib.hid (show ¬ PoolR C L now from fun h => by have := HZ.out.2 (h.1.2.2 k x HX.out); cases this)
        go_wp2_with fail
        refine (must_no _ _).mono ?_
        rintro e w9 ⟨rfl, rfl⟩
        go_wp2
        refine ⟨rfl, ?_⟩
        exact resP_no HN.out HB1.out
      | true =>
        have HA2 := Lib.hid (show ∀ (j : Nat) x, j < k + 1 → C[j]? = some x → ChainR x from fun j y hj hy => by
          by_cases e : j = k
          · subst e
            have := HX.out
            rw [hy] at this
            obtain rfl := Option.some.inj this
            exact HZ.out.1 rfl
          · exact HA.out j y (by omega) hy)
        go_wp2_with fail
        refine (must_yes _ _).mono ?_
        rintro e w9 ⟨rfl, rfl⟩
        go_wp2
        go_roundw
        case rel => exact ⟨k + 1, by omega, by go_num, HA2, HB1.out, HP1⟩
        case measure => simp [intOf]; omega
    · have hdl : decide ((k : Int) < (C.length : Int)) = false := decide_eq_false (by omega)
      have HCR := Lib.hid (show ClearR C from ⟨H16.out.1, H16.out.2, fun i x hx => HA.out i x (by have := el_lt hx; omega) hx⟩)
      have p0 := HP.out.at_ 0 rfl
      have p1 := HP.out.at_ 1 rfl
      have p2 := HP.out.at_ 2 rfl
      have HL1 := Lib.hid ((HL.out.below R_Job_ok hB).more R_Job_ok hsz)
      have HC1 := Lib.hid ((HC.out.below (Sl_ok R_Label_ok) hB).more (Sl_ok R_Label_ok) hsz)
      clear hB
      go_wp2_with fail
      refine (jobs_impl HL1.out).mono ?_
      intro e w1 h
      obtain ⟨z, rfl, hz, hb⟩ := resB_elim h
      have HB1 := Lib.hid (HB.out.trans (hb.mono hsz))
      have HP1 := Lib.hid (HP.out.call hb)
      have HC2 := Lib.hid (rd_mv (Sl_ok R_Label_ok) HC1.out hb)
      have HL2 := Lib.hid (rd_mv R_Job_ok HL1.out hb)
      have HZ := Lib.hid hz
      have hz1 := HB1.out.size
      clear h hz hb p0 p1 p2
      have p0 := HP1.out.at_ 0 rfl
      have p1 := HP1.out.at_ 1 rfl
      have p2 := HP1.out.at_ 2 rfl
      cases z with
      | false =>
        have HN := Lib.hid (show ¬ PoolR C L now from fun h => by have := HZ.out.2 h.2.1; cases this)
        go_wp2_with fail
        refine (must_no _ _).mono ?_
        rintro e w9 ⟨rfl, rfl⟩
        go_wp2
        refine ⟨rfl, ?_⟩
        exact resP_no HN.out HB1.out
      | true =>
        have HJ := Lib.hid (HZ.out.1 rfl)
        go_wp2_with fail
        refine (now_im _ H3.out _).mono ?_
        rintro e w9 ⟨rfl, rfl⟩
        cases b3 with
        | false =>
          have HN := Lib.hid (show ¬ PoolR C L now from fun h => by have h2 := h.2.2.1; rw [H3.out] at h2; cases h2)
          go_wp2_with fail
          refine (must_no _ _).mono ?_
          rintro e w9 ⟨rfl, rfl⟩
          go_wp2
          refine ⟨rfl, ?_⟩
          exact resP_no HN.out HB1.out
        | true =>
          go_wp2_with fail
          refine (must_yes _ _).mono ?_
          rintro e w9 ⟨rfl, rfl⟩
          go_wp2_with fail
          refine (running_spec (now := now) HJ.out HC2.out HL2.out).mono ?_
          intro e w2 h
          obtain ⟨h, hb⟩ := resP_elim h
          have HB2 := Lib.hid (HB1.out.trans (hb.mono hz1))
          rcases h with ⟨hr, rfl⟩ | ⟨hr, rfl⟩
          · have HY := Lib.hid (show PoolR C L now from ⟨HCR.out, HJ.out, H3.out, hr.1, hr.2⟩)
            clear hr hb
            go_wp2
            go_end0
            exact resP_yes HY.out HB2.out
          · have HN := Lib.hid (show ¬ PoolR C L now from fun h => hr ⟨h.2.2.2.1, h.2.2.2.2⟩)
            clear hr hb
            go_wp2
            refine ⟨rfl, ?_⟩
            exact resP_no HN.out HB2.out

/-! ### the deferred closure of PoolRight -/
theorem right_panicking (p : Addr) (x : Bool) (u : TypeId) (pv : Value) (older : List PanicEntry) (w : World) (hc : w.cell? p = some (.bool x)) (hz : w.frozen? p = false) :
    CallsD Try.prog 102 #[.pointer (some p)] (.panicking ({ v := .iface u pv, recovered := false } :: older)) w fun e u' w' =>
      e = .returned (.tuple #[]) ∧ u' = .panicking ({ v := .iface u pv, recovered := true } :: older) ∧ w' = w.setCell p (.bool false) := by
  refine callsD_of_wpS Try.func102 rfl fun c₀ cs hu => ?_
  apply wpS_region
  simp [wpOpsS, go_sem, recoverD, hu, Try.ntmps102, Exit.thenS, hc, hz, bodyPostS, results, Try.results102]
theorem right_idle (p : Addr) (x : Bool) (w : World) (hc : w.cell? p = some (.bool x)) (hz : w.frozen? p = false) :
    CallsD Try.prog 102 #[.pointer (some p)] .returning w fun e u' w' => e = .returned (.tuple #[]) ∧ u' = .returning ∧ w' = w.setCell p (.bool true) := by
  refine callsD_of_wpS Try.func102 rfl fun c₀ cs hu => ?_
  apply wpS_region
  simp [wpOpsS, go_sem, recoverD, hu, Try.ntmps102, Exit.thenS, hc, hz, bodyPostS, results, Try.results102]
  cases c₀
  simp_all

set_option maxRecDepth 100000 in
set_option maxHeartbeats 3200000 in
theorem poolright_impl {C : List (List D_Label)} {L : List D_Job} {now : Int} {ca ja : Option Addr} {cc jc : Nat} {W : World} (hC : RdSl (Sl R_Label) W W.heap.size C ca cc) (hL : RdSl R_Job W W.heap.size L ja jc) :
    Calls Try.prog 40 #[.agg #[.slice ca C.length cc, .slice ja L.length jc, .int .i64 now]] W (ResB (PoolR C L now) W) := by
  have hmf : ∀ (fn : Fn) (first cap : Array Value) (w : World), (Instr.makeFunc fn first cap).run Try.prog w = .ok (.func fn first cap) w := fun _ _ _ _ => rfl
  have HB0 := Lib.hid (show Below W.heap.size W ((W.alloc (.cells #[.slice ca C.length cc, .slice ja L.length jc, .int .i64 now] 65)).alloc (.cells #[.bool false] 4)) from ((Below.refl _ _).alloc (Nat.le_refl _) _).alloc (by simp) _)
  have HC := Lib.hid (rd_mv (Sl_ok R_Label_ok) hC HB0.out)
  have HL := Lib.hid (rd_mv R_Job_ok hL HB0.out)
  have HV0 := Lib.hid (Blk.new (W.alloc (.cells #[.slice ca C.length cc, .slice ja L.length jc, .int .i64 now] 65)) 4 #[.bool false])
  simp only [World.size_alloc] at HV0
  have hz0 := HB0.out.size
  clear hC hL
  go_enter_defers Try.func40, Try.ntmps40
  go_wp2_with fail
  refine (checkpool_spec (now := now) HC.out HL.out).mono ?_
  intro e w1 h
  obtain ⟨h, hb⟩ := resP_elim h
  have HB1 := Lib.hid (HB0.out.trans (hb.mono hz0))
  have HV1 := Lib.hid (HV0.out.call hb)
  clear hb
  have hv0 : w1.cell? ⟨W.heap.size + 1, 0, none⟩ = some (.bool false) := HV1.out.at_ 0 rfl
  have hs0 := HV1.out.soft 0
  rcases h with ⟨hr, rfl⟩ | ⟨hr, rfl⟩
  · have HY := Lib.hid hr
    have HBt := Lib.hid ((HB1.out.setCell (p := ⟨W.heap.size + 1, 0, none⟩) (by show W.heap.size ≤ W.heap.size + 1; omega) (.bool true)).setCell (p := ⟨W.heap.size + 1, 0, none⟩) (by show W.heap.size ≤ W.heap.size + 1; omega) (.bool true))
    have HV2 := Lib.hid (HV1.out.set 0 (.bool true))
    have HV3 := Lib.hid (HV2.out.set 0 (.bool true))
    clear hr
    go_wp2
    refine leaves_cons (f := 102) (args := #[.pointer (some ⟨W.heap.size + 1, 0, none⟩)]) (by simp) (by simp [go_sem]) ?_
    refine (right_idle ⟨W.heap.size + 1, 0, none⟩ true _ (HV2.out.at_ 0 rfl) (HV2.out.soft 0)).mono ?_
    rintro e u' w'' ⟨rfl, rfl, rfl⟩
    have hfin := HV3.out.at_ 0 rfl
    simp at hfin
    simp [Leaves, settle, results, Try.results40, go_sem, hfin]
    exact resB_yes HY.out HBt.out
  · have HN := Lib.hid hr
    have HBt := Lib.hid (HB1.out.setCell (p := ⟨W.heap.size + 1, 0, none⟩) (by show W.heap.size ≤ W.heap.size + 1; omega) (.bool false))
    have HV3 := Lib.hid (HV1.out.set 0 (.bool false))
    clear hr
    go_wp2
    refine leaves_cons (f := 102) (args := #[.pointer (some ⟨W.heap.size + 1, 0, none⟩)]) (by simp) (by simp [go_sem]) ?_
    refine (right_panicking ⟨W.heap.size + 1, 0, none⟩ false _ _ _ _ hv0 hs0).mono ?_
    rintro e u' w'' ⟨rfl, rfl, rfl⟩
    have hfin := HV3.out.at_ 0 rfl
    simp at hfin
    simp [Leaves, settle, results, Try.results40, go_sem, hfin]
    exact resB_no HN.out HBt.out
end Go.Proofs.Ytjpkeofpcpaoaaa.RepC
