/- FitNodes, in the program and in its model: contracts. -/
import Derived.Test.YtphklknaagjmpaaTk
import Derived.Test.YtphklknaagjmpaaSqFit
namespace Go.Proofs.Ytphklknaagjmpaa.SpanC
open Go.RowKit KeptC RowC ValC
set_option linter.unusedSimpArgs false
set_option linter.unusedVariables false

def FitQ (N : Nat → Nat) (F : Nat → Nat → Int × Int) (a b : Int) (m : Nat) (q : Nat) (L : List Nat) : Prop := (q ≤ (frs N F a b m).length ∧ L = (frs N F a b m).take q) ∨ ((frs N F a b m).length < q ∧ L = [])
theorem fit_pre {N : Nat → Nat} {F : Nat → Nat → Int × Int} {a b : Int} {m k q : Nat} (hk : k ≤ m) (h : (frs N F a b k).length = q) : FitQ N F a b m q (frs N F a b k) := by
  obtain ⟨r, hr⟩ := frs_pre (N := N) (F := F) (a := a) (b := b) hk
  refine .inl ⟨by rw [hr, List.length_append]; omega, ?_⟩
  rw [hr, ← h, List.take_left]

set_option maxRecDepth 100000 in
set_option maxHeartbeats 3200000 in
theorem fit_spec {qa : Option Addr} {qc m : Nat} {N : Nat → Nat} {F : Nat → Nat → Int × Int} {qA : Nat → Option Addr} {qC : Nat → Nat} {w : World} (a b : Int) (q : Nat) (hq1 : 1 ≤ q) (hq : q ≤ 6) (hm : m ≤ 6) (hN : ∀ i, i < m → N i ≤ 1048576) (h1 : RA w qa m N F qA qC) :
    Calls Try.prog 41 #[.slice qa m qc, .int .i64 q, .agg #[.int .i64 a, .int .i64 b]] w (ResL (FitQ N F a b m q) w) := by
  have H1 := Lib.hid h1
  clear h1
  go_enter Try.func41, Try.ntmps41
  go_wp2
  go_loopw [8, 7] (fun i v wr => ∃ k : Nat, k ≤ m ∧ i = .int .i64 k ∧ (∃ A ln cap, v = .slice A ln cap ∧ ln ≤ q ∧ RowL wr (w.heap.size + 1) A ln cap (frs N F a b k)) ∧ Below (w.heap.size + 1) (w.alloc (.cells #[.int .i64 a, .int .i64 b] 25)) wr ∧ Below w.heap.size w wr) (fun i _ _ => m - (intOf i).toNat)
  case atStart => exact ⟨0, Nat.zero_le _, rfl, ⟨some ⟨w.heap.size + 1, 0, none⟩, 0, 0, rfl, Nat.zero_le _, rfl, by simpa using RowO.made0 (w.alloc (.cells #[.int .i64 a, .int .i64 b] 25)) (w.heap.size + 1) 2 1 (ic (frs N F a b 0)) (by simp)⟩, by simpa using (Below.refl (w.heap.size + 1) (w.alloc (.cells #[.int .i64 a, .int .i64 b] 25))).alloc (by simp) (.cells #[] 2), ((Below.refl _ _).alloc (Nat.le_refl _) _).alloc (by simp) _⟩
  case round =>
    obtain ⟨k, hk, rfl, ⟨A, ln, cap, rfl, hlq, hL⟩, hb0, hb⟩ := hrel
    have HB0 := Lib.hid hb0
    have HB := Lib.hid hb
    have HL := Lib.hid hL
    have hsz := hb.size
    clear hL
    by_cases hlt : k < m
    · by_cases hfull : ln < q
      · have HR := Lib.hid (H1.out.below hb)
        obtain ⟨g, o, rfl, hgl, hc0⟩ := HR.out.cell k hlt
        have ⟨hx0, hx1, hxl⟩ := box0 hb0
        have hi0 : (0 : Int) ≤ (k : Int) := Int.natCast_nonneg _
        have hi1 : (k : Int) < (m : Int) := by omega
        clear hb0 hb
        have hlnq : decide ((ln : Int) < (q : Int)) = true := decide_eq_true (by omega)
        have HC := fun (W : World) (hb : Below wr.heap.size wr W) => free_spec (qA k) (N k) (qC k) (F k) a b W (hN k hlt) ((HR.out.row k hlt).bel hb)
        have HC := Lib.hid HC
        go_wp2_with fail
        refine wp_region_held_drew (S := (fun W => W.cell? ⟨g, o + k, none⟩ = some (.slice (qA k) (N k) (qC k)) ∧ W.cell? ⟨w.heap.size, 0, none⟩ = some (.int .i64 a) ∧ W.cell? ⟨w.heap.size, 1, none⟩ = some (.int .i64 b) ∧ wr.heap.size ≤ W.heap.size ∧ Below wr.heap.size wr W)) (by kernel_rfl) (⟨hc0, hx0, hx1, Nat.le_refl _, (Below.refl _ _).drew⟩) (fun hHeld => ?_)
        refine tk 0 hHeld ?_
        refine tk 1 hHeld ?_
        refine tk 2 hHeld ?_
        refine tk 3 hHeld ?_
        refine tk 4 hHeld ?_
        refine rd1 5 (fun K hK => ?_)
        go_simp
        go_at_call 43; refine (HC.out _ (by exact hHeld.2.2.2.2)).mono ?_; intro e w1 h; obtain ⟨c, rfl, hq, hb⟩ := resB_elim h; have HQ := Lib.hid hq; clear h hq
        refine hK.out _ _ (⟨(hb.cell (p := ⟨g, o + k, none⟩) (Nat.lt_of_lt_of_le hgl hHeld.2.2.2.1)).trans hHeld.1, (hb.cell (p := ⟨w.heap.size, 0, none⟩) (Nat.lt_of_lt_of_le hxl hHeld.2.2.2.1)).trans hHeld.2.1, (hb.cell (p := ⟨w.heap.size, 1, none⟩) (Nat.lt_of_lt_of_le hxl hHeld.2.2.2.1)).trans hHeld.2.2.1, Nat.le_trans hHeld.2.2.2.1 hb.size, hHeld.2.2.2.2.trans (hb.mono hHeld.2.2.2.1)⟩) (fun hHeld => ?_)
        clear hK K
        refine rd0 ?_
        have HB2 := Lib.hid (HB.out.trans (hHeld.2.2.2.2.mono hsz))
        have HB02 := Lib.hid (HB0.out.trans (hHeld.2.2.2.2.mono hxl))
        have HL2 := Lib.hid (HL.out.below hHeld.2.2.2.2)
        have hs2 := HB2.out.size
        clear hHeld hx0 hx1 hxl hc0
        cases c with
        | false =>
          have HE := Lib.hid (frs_no (N := N) (F := F) (k := k) (fun h => by have := HQ.out.2 h; cases this))
          clear HQ
          go_wp2
          go_roundw
          case rel => exact ⟨k + 1, by omega, by go_num, ⟨A, ln, cap, rfl, hlq, by rw [HE.out]; exact HL2.out⟩, HB02.out, HB2.out⟩
          case measure => simp [intOf]; omega
        | true =>
          have HE := Lib.hid (frs_yes (N := N) (F := F) (k := k) (HQ.out.1 rfl))
          have hbx := (box0 HB02.out).2.2
          obtain ⟨A', cap', W', hr, hL', hb', hblk⟩ := app_i HL2.out hbx (by omega) k 37
          have HRun := Lib.hid hr
          have HL3 := Lib.hid hL'
          have HB3 := Lib.hid (HB2.out.trans (hb'.mono (Nat.le_succ _)))
          have HB03 := Lib.hid (HB02.out.trans hb')
          clear HQ hr hL' hb' hblk
          go_wp2_with (at_builtin; refine wpList_app rfl (.tmp 28) (.tmp 30) 37 rfl rfl rfl HRun.out ?_)
          go_roundw
          case rel => exact ⟨k + 1, by omega, by go_num, ⟨A', ln + 1, cap', rfl, by omega, by rw [HE.out]; exact HL3.out⟩, HB03.out, HB3.out⟩
          case measure => simp [intOf]; omega
      · have hlnq : decide ((ln : Int) < (q : Int)) = false := decide_eq_false (by omega)
        have HY := Lib.hid (show ResL (FitQ N F a b m q) w (.returned (.slice A ln cap)) wr from ⟨A, ln, cap, _, rfl, fit_pre hk (by have := HL.out.1; omega), ⟨HL.out.1, HL.out.2.lower (Nat.le_succ _)⟩, HB.out⟩)
        clear hb0 hb
        go_wp2
        go_ret
        exact HY.out
    · obtain rfl : k = m := by omega
      clear hb hb0
      by_cases hfull : ln < q
      · have hlnq : decide ((ln : Int) < (q : Int)) = true := decide_eq_true (by omega)
        have HY := Lib.hid (show ResL (FitQ N F a b k q) w (.returned (.slice (some ⟨wr.heap.size, 0, none⟩) 0 0)) (wr.alloc (.cells #[] 2)) from ⟨_, 0, 0, [], rfl, .inr ⟨by have := HL.out.1; omega, rfl⟩, ⟨rfl, RowO.made0 wr w.heap.size _ _ _ hsz⟩, HB.out.alloc hsz _⟩)
        go_wp2
        go_ret
        exact HY.out
      · have hlnq : decide ((ln : Int) < (q : Int)) = false := decide_eq_false (by omega)
        have HY := Lib.hid (show ResL (FitQ N F a b k q) w (.returned (.slice A ln cap)) wr from ⟨A, ln, cap, _, rfl, fit_pre hk (by have := HL.out.1; omega), ⟨HL.out.1, HL.out.2.lower (Nat.le_succ _)⟩, HB.out⟩)
        go_wp2
        go_ret
        exact HY.out

/-- what FitNodes asks -/
def FitC (N : Nat → Nat) (F : Nat → Nat → Int × Int) (a b : Int) (m : Nat) (need : Int) : Prop := RowsP m N F ∧ isB need 1 6 = true ∧ spP a b ∧ need ≤ (frs N F a b m).length
def FitR (N : Nat → Nat) (F : Nat → Nat → Int × Int) (a b : Int) (m : Nat) (need : Int) (L : List Nat) : Prop := (FitC N F a b m need ∧ L = (frs N F a b m).take need.toNat) ∨ (¬ FitC N F a b m need ∧ L = [])
theorem fitR_one {N : Nat → Nat} {F : Nat → Nat → Int × Int} {a b : Int} {m : Nat} {need : Int} {L L' : List Nat} (h : FitR N F a b m need L) (h' : FitR N F a b m need L') : L = L' := by
  rcases h with ⟨h1, rfl⟩ | ⟨h1, rfl⟩ <;> rcases h' with ⟨h2, rfl⟩ | ⟨h2, rfl⟩
  · rfl
  · exact absurd h1 h2
  · exact absurd h2 h1
  · rfl
/-- numbers in new memory -/
def ResN (Q : List Nat → Prop) (w : World) (e : Ending) (w' : World) : Prop := ∃ v L, e = .returned v ∧ Q L ∧ RowV w' (Rg w.heap.size w'.heap.size) v L.length 1 (ic L) ∧ Below w.heap.size w w'
theorem resN_elim {Q : List Nat → Prop} {w : World} {e : Ending} {w' : World} (h : ResN Q w e w') : ∃ v L, e = .returned v ∧ Q L ∧ RowV w' (Rg w.heap.size w'.heap.size) v L.length 1 (ic L) ∧ Below w.heap.size w w' := h
theorem rowV_lower {W : World} {lo lo' : Nat} {v : Value} {n size : Nat} {c : Nat → Value} (h : RowV W (Rg lo W.heap.size) v n size c) (hl : lo' ≤ lo) : RowV W (Rg lo' W.heap.size) v n size c := h.more (fun k hk => hk.2) (fun k hk => ⟨Nat.le_trans hl hk.1, hk.2⟩)
theorem rowV_nil (W : World) (lo : Nat) (size : Nat) (c : Nat → Value) (a : Option Addr) (cap : Nat) : RowV W (Rg lo W.heap.size) (.slice a 0 cap) 0 size c := ⟨fun k hk => hk.2, a, cap, rfl, Nat.zero_le _, fun h => absurd h (Nat.lt_irrefl _)⟩
theorem need_nat {need : Int} (h : isB need 1 6 = true) : ∃ q : Nat, need = q ∧ 1 ≤ q ∧ q ≤ 6 := by
  rw [isB_iff] at h
  exact ⟨need.toNat, by omega, by omega, by omega⟩

set_option maxRecDepth 100000 in
set_option maxHeartbeats 1600000 in
theorem fitnodes_impl {qa : Option Addr} {qc m : Nat} {N : Nat → Nat} {F : Nat → Nat → Int × Int} {qA : Nat → Option Addr} {qC : Nat → Nat} {w : World} (need a b : Int) (hm : m ≤ 1048576) (hN : ∀ i, i < m → N i ≤ 1048576) (h1 : RA w qa m N F qA qC) :
    Calls Try.prog 14 #[.slice qa m qc, .int .i64 need, .agg #[.int .i64 a, .int .i64 b]] w (ResN (FitR N F a b m need) w) := by
  have H1 := Lib.hid h1
  have HR0 := Lib.hid (h1.below ((Below.refl w.heap.size w).alloc (Nat.le_refl _) (.cells #[.int .i64 a, .int .i64 b] 25)))
  clear h1
  go_enter Try.func14, Try.ntmps14
  go_wp2_with fail
  refine (rows_impl hm hN HR0.out).mono ?_
  intro e wr h
  obtain ⟨c, rfl, hc, hb⟩ := resB_elim h
  have hb : Below (w.heap.size + 1) (w.alloc (.cells #[.int .i64 a, .int .i64 b] 25)) wr := by simpa using hb
  have HB := Lib.hid hb
  have ⟨hx0, hx1, hxl⟩ := box0 hb
  have hsz : w.heap.size + 1 ≤ wr.heap.size := hxl
  clear h HR0
  cases c with
  | false =>
    have HN := Lib.hid (show ¬ FitC N F a b m need from fun h => by have := hc.2 h.1; cases this)
    clear hb hc
    go_wp2
    go_ret
    exact ⟨_, [], rfl, .inr ⟨HN.out, rfl⟩, rowV_nil _ _ _ _ _ _, bel1 HB.out⟩
  | true =>
    have HS := Lib.hid (hc.1 rfl)
    clear hb hc
    cases hr : isB need 1 6 with
    | false =>
      have hrs := fun W => is_impl need 1 6 W
      rw [hr] at hrs
      have HN := Lib.hid (show ¬ FitC N F a b m need from fun h => by have := h.2.1; rw [hr] at this; cases this)
      clear hr
      go_wp2_with fail
      refine (hrs _).mono ?_
      rintro e w1 ⟨rfl, rfl⟩
      go_wp2
      go_ret
      exact ⟨_, [], rfl, .inr ⟨HN.out, rfl⟩, rowV_nil _ _ _ _ _ _, bel1 HB.out⟩
    | true =>
      have hrs := fun W => is_impl need 1 6 W
      rw [hr] at hrs
      obtain ⟨q, rfl, hq1, hq6⟩ := need_nat hr
      have HI := Lib.hid hr
      clear hr
      go_wp2_with fail
      refine (hrs _).mono ?_
      rintro e w1 ⟨rfl, rfl⟩
      clear hrs
      cases hr2 : spB a b with
      | false =>
        have hrs := fun W => right_impl a b W
        rw [hr2] at hrs
        have HN := Lib.hid (show ¬ FitC N F a b m (q : Nat) from fun h => by have := (spB_iff _ _).2 h.2.2.1; rw [hr2] at this; cases this)
        clear hr2
        go_wp2_with fail
        refine (hrs _).mono ?_
        rintro e w2 ⟨rfl, hb⟩
        have HB2 := Lib.hid (HB.out.trans (hb.mono hsz))
        have hs2 := (box0 HB2.out).2.2
        clear hb
        go_wp2
        go_ret
        exact ⟨_, [], rfl, .inr ⟨HN.out, rfl⟩, rowV_nil _ _ _ _ _ _, bel1 HB2.out⟩
      | true =>
        have hrs := fun W => right_impl a b W
        rw [hr2] at hrs
        have HP := Lib.hid ((spB_iff _ _).1 hr2)
        clear hr2
        go_wp2_with fail
        refine (hrs _).mono ?_
        rintro e w2 ⟨rfl, hb⟩
        have HB2 := Lib.hid (HB.out.trans (hb.mono hsz))
        have ⟨hy0, hy1, hyl⟩ := box0 HB2.out
        have hs2 : w.heap.size + 1 ≤ w2.heap.size := hyl
        clear hb hrs hx0 hx1
        go_wp2_with fail
        refine (nodes_impl a b HS.out.1 hN (H1.out.below (bel1 HB2.out)) HS.out.2 HP.out.2.1).mono ?_
        intro e w3 h
        obtain ⟨A, ln, cap, L, rfl, hL, hrow, hb⟩ := resL_elim h
        subst hL
        have hlen := hrow.1
        have hl6 := frs_len (N := N) (F := F) (a := a) (b := b) m
        have hm6 := HS.out.1
        have HB3 := Lib.hid (HB2.out.trans (hb.mono hs2))
        have HRow := Lib.hid hrow
        clear h hb
        by_cases hfit : q ≤ ln
        · have HCc := Lib.hid (show FitC N F a b m (q : Nat) from ⟨HS.out, HI.out, HP.out, by omega⟩)
          have HV := Lib.hid (RowV.of_own HRow.out.2)
          have hd : decide ((ln : Int) < (q : Int)) = false := decide_eq_false (by omega)
          obtain ⟨g2, cap2, hv2, hlo, hlt2, hcap, hcc, hff⟩ := HRow.out.2.form (by omega)
          injection hv2 with hv2 hv3 hv4
          subst hv2
          subst hv4
          have HF2 := Lib.hid (show RowV w3 (Rg w.heap.size w3.heap.size) (.slice (some ⟨g2, 0, none⟩) q q) ((frs N F a b m).take q).length 1 (ic ((frs N F a b m).take q)) from by
            have e1 : ((frs N F a b m).take q).length = q := by rw [List.length_take]; omega
            rw [e1]
            refine ⟨fun k hk => hk.2, _, _, rfl, Nat.le_refl _, fun _ => ⟨g2, rfl, ⟨by omega, hlt2⟩, fun j hj => ?_, hff⟩⟩
            rw [hcc j (by omega)]
            unfold ic
            simp only [List.getD, List.getElem?_take]
            rw [if_pos (by omega)])
          have hqc : (q : Int) ≤ (cap : Int) := by omega
          have hq0 : (0 : Int) ≤ (q : Int) := Int.natCast_nonneg _
          clear hrow hlen hcc hff hv3 hl6
          go_wp2
          go_ret
          exact ⟨_, _, rfl, .inl ⟨HCc.out, by rw [Int.toNat_natCast]⟩, HF2.out, bel1 HB3.out⟩
        · have HN := Lib.hid (show ¬ FitC N F a b m (q : Nat) from fun h => by have := h.2.2.2; omega)
          have hd : decide ((ln : Int) < (q : Int)) = true := decide_eq_true (by omega)
          clear hrow hlen hl6
          go_wp2
          go_ret
          exact ⟨_, [], rfl, .inr ⟨HN.out, rfl⟩, rowV_nil _ _ _ _ _ _, bel1 HB3.out⟩

set_option maxRecDepth 100000 in
set_option maxHeartbeats 1600000 in
theorem fitnodes_spec {qa : Option Addr} {qc m : Nat} {N : Nat → Nat} {F : Nat → Nat → Int × Int} {qA : Nat → Option Addr} {qC : Nat → Nat} {w : World} (need a b : Int) (hm : m ≤ 1048576) (hN : ∀ i, i < m → N i ≤ 1048576) (h1 : RA w qa m N F qA qC) :
    Calls Try.prog 15 #[.slice qa m qc, .int .i64 need, .agg #[.int .i64 a, .int .i64 b]] w (ResN (FitR N F a b m need) w) := by
  have H1 := Lib.hid h1
  have HR0 := Lib.hid (h1.below ((Below.refl w.heap.size w).alloc (Nat.le_refl _) (.cells #[.int .i64 a, .int .i64 b] 25)))
  clear h1
  go_enter Try.func15, Try.ntmps15
  go_wp2_with fail
  refine (rows_spec hm hN HR0.out).mono ?_
  intro e wr h
  obtain ⟨c, rfl, hc, hb⟩ := resB_elim h
  have hb : Below (w.heap.size + 1) (w.alloc (.cells #[.int .i64 a, .int .i64 b] 25)) wr := by simpa using hb
  have HB := Lib.hid hb
  have ⟨hx0, hx1, hxl⟩ := box0 hb
  have hsz : w.heap.size + 1 ≤ wr.heap.size := hxl
  clear h HR0
  cases c with
  | false =>
    have HN := Lib.hid (show ¬ FitC N F a b m need from fun h => by have := hc.2 h.1; cases this)
    clear hb hc
    go_wp2
    go_ret
    exact ⟨_, [], rfl, .inr ⟨HN.out, rfl⟩, rowV_nil _ _ _ _ _ _, (bel1 HB.out).alloc (by omega) _⟩
  | true =>
    have HS := Lib.hid (hc.1 rfl)
    clear hb hc
    cases hr2 : spB a b with
    | false =>
      have hrs := fun W => right_spec a b W
      rw [hr2] at hrs
      have HN := Lib.hid (show ¬ FitC N F a b m need from fun h => by have := (spB_iff _ _).2 h.2.2.1; rw [hr2] at this; cases this)
      clear hr2
      go_wp2_with fail
      refine (hrs _).mono ?_
      rintro e w2 ⟨rfl, hb⟩
      have HB2 := Lib.hid (HB.out.trans (hb.mono hsz))
      have hs2 := (box0 HB2.out).2.2
      clear hb
      go_wp2
      go_ret
      exact ⟨_, [], rfl, .inr ⟨HN.out, rfl⟩, rowV_nil _ _ _ _ _ _, (bel1 HB2.out).alloc (by omega) _⟩
    | true =>
      have hrs := fun W => right_spec a b W
      rw [hr2] at hrs
      have HP := Lib.hid ((spB_iff _ _).1 hr2)
      clear hr2
      go_wp2_with fail
      refine (hrs _).mono ?_
      rintro e w2 ⟨rfl, hb⟩
      have HB2 := Lib.hid (HB.out.trans (hb.mono hsz))
      have ⟨hy0, hy1, hyl⟩ := box0 HB2.out
      have hs2 : w.heap.size + 1 ≤ w2.heap.size := hyl
      clear hb hrs hx0 hx1
      cases hr : isB need 1 6 with
      | false =>
        have hrs := fun W => is_spec need 1 6 W
        rw [hr] at hrs
        have HN := Lib.hid (show ¬ FitC N F a b m need from fun h => by have := h.2.1; rw [hr] at this; cases this)
        clear hr
        go_wp2_with fail
        refine (hrs _).mono ?_
        rintro e w1 ⟨rfl, rfl⟩
        go_wp2
        go_ret
        exact ⟨_, [], rfl, .inr ⟨HN.out, rfl⟩, rowV_nil _ _ _ _ _ _, (bel1 HB2.out).alloc (by omega) _⟩
      | true =>
        have hrs := fun W => is_spec need 1 6 W
        rw [hr] at hrs
        obtain ⟨q, rfl, hq1, hq6⟩ := need_nat hr
        have HI := Lib.hid hr
        clear hr
        go_wp2_with fail
        refine (hrs _).mono ?_
        rintro e w1 ⟨rfl, rfl⟩
        clear hrs
        go_wp2_with fail
        refine (fit_spec a b q hq1 hq6 HS.out.1 hN (H1.out.below (bel1 HB2.out))).mono ?_
        intro e w3 h
        obtain ⟨A, ln, cap, L, rfl, hL, hrow, hb⟩ := resL_elim h
        have hlen := hrow.1
        have HB3 := Lib.hid (HB2.out.trans (hb.mono hs2))
        have HV := Lib.hid (show ResN (FitR N F a b m (q : Nat)) w (.returned (.slice A ln cap)) w3 from ⟨_, L, rfl, by
            rcases hL with ⟨h1, h2⟩ | ⟨h1, h2⟩
            · exact .inl ⟨⟨HS.out, HI.out, HP.out, by omega⟩, by rw [h2, Int.toNat_natCast]⟩
            · exact .inr ⟨fun h => by have := h.2.2.2; omega, h2⟩, by rw [← hlen]; exact rowV_lower (RowV.of_own hrow.2) (by omega), bel1 HB3.out⟩)
        clear h hb hrow hlen hL
        go_wp2
        go_ret
        exact HV.out
end Go.Proofs.Ytphklknaagjmpaa.SpanC
