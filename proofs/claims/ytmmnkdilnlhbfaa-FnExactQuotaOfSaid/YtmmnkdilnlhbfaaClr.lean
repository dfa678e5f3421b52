/- Chains and clearances in the model, without jobs: contracts. -/
import Derived.Test.YtmmnkdilnlhbfaaTk
import Derived.Test.YtmmnkdilnlhbfaaResB
import Derived.Test.YtmmnkdilnlhbfaaWiA
import Derived.Test.YtmmnkdilnlhbfaaSp
import Derived.Test.YtmmnkdilnlhbfaaLabBelow
import Derived.Test.YtmmnkdilnlhbfaaLApp
import Derived.Test.YtmmnkdilnlhbfaaPoolM
import Derived.Test.YtmmnkdilnlhbfaaGen
import Derived.Test.YtmmnkdilnlhbfaaTk
import Derived.WalkLawsBesides
namespace Go.Proofs.Ytmmnkdilnlhbfaa.RepC
open Go.RowKit RowC ValC SpanC KeptC
set_option linter.unusedVariables false
set_option linter.unusedSimpArgs false

theorem is_at (n lo hi : Int) {b : Bool} (hb : isB n lo hi = b) (w : World) :
    Calls Try.prog 76 #[.int .i64 n, .int .i64 lo, .int .i64 hi] w fun e w' => e = .returned (.bool b) ∧ w = w' := by
  subst hb
  exact is_spec n lo hi w
theorem lab_below (l s : Int) {b : Bool} (hb : LabC.rB l s = b) (w : World) :
    Calls Try.prog 94 #[.agg #[.int .i64 l, .int .i64 s]] w fun e w' => e = .returned (.bool b) ∧ Below w.heap.size w w' := by
  subst hb
  exact (LabC.right_spec l s w).mono fun _ _ ⟨h1, h2⟩ => ⟨h1, by rw [← h2]; exact (Below.refl _ _).alloc (Nat.le_refl _) _⟩

theorem rd_mv {α : Type} {E : Rp α} (hE : Ok E) {L : List α} {a : Option Addr} {c : Nat} {w w' : World} (h : RdSl E w w.heap.size L a c) (hb : Below w.heap.size w w') : RdSl E w' w'.heap.size L a c := (h.below hE hb).more hE hb.size

theorem resB_at {p : Prop} {b : Bool} (hb : b = true ↔ p) {w : World} {e : Ending} {w' : World} (h : ResB p w e w') : e = .returned (.bool b) ∧ Below w.heap.size w w' := by
  obtain ⟨q, rfl, hq, hbl⟩ := resB_elim h
  exact ⟨by rw [show q = b from Bool.eq_iff_iff.2 (hq.trans hb.symm)], hbl⟩
theorem bx1 (W : World) (c0 : Array Value) (T0 : TypeId) : Below W.heap.size W (W.alloc (.cells c0 T0)) ∧ Blk (W.alloc (.cells c0 T0)) W.heap.size T0 c0 := ⟨(Below.refl _ _).alloc (Nat.le_refl _) _, Blk.new _ _ _⟩
def IsI (n : Int) (w : World) (e : Ending) (w' : World) : Prop := e = .returned (.int .i64 n) ∧ Below w.heap.size w w'
theorem isI_elim {n : Int} {w : World} {e : Ending} {w' : World} (h : IsI n w e w') : e = .returned (.int .i64 n) ∧ Below w.heap.size w w' := h

theorem size_Lab : R_Label.size = 2 := rfl
def okC (L : List D_Label) (i : Nat) : Prop := ∀ x, L[i]? = some x → LabC.rB x.1 x.2 = true ∧ (0 < i → ∀ y, L[i - 1]? = some y → LabC.bB y.1 y.2 x.1 x.2 = true ∧ y ≠ x)
def ChainR (L : List D_Label) : Prop := 1 ≤ L.length ∧ L.length ≤ 4 ∧ ∀ i, i < L.length → okC L i
theorem okC_first {L : List D_Label} {x : D_Label} (hx : L[0]? = some x) (hr : LabC.rB x.1 x.2 = true) : okC L 0 := fun y hy => by
  rw [hx] at hy; obtain rfl := Option.some.inj hy; exact ⟨hr, fun h => absurd h (Nat.lt_irrefl _)⟩
theorem okC_next {L : List D_Label} {j : Nat} {x y : D_Label} (hx : L[j + 1]? = some x) (hy : L[j]? = some y) (hr : LabC.rB x.1 x.2 = true) (hb : LabC.bB y.1 y.2 x.1 x.2 = true) (hne : y ≠ x) : okC L (j + 1) := fun z hz => by
  rw [hx] at hz; obtain rfl := Option.some.inj hz
  refine ⟨hr, fun _ u hu => ?_⟩
  rw [Nat.add_sub_cancel, hy] at hu
  obtain rfl := Option.some.inj hu
  exact ⟨hb, hne⟩
theorem below2_at (l s m t : Int) {b : Bool} (hb : LabC.bB l s m t = b) (w : World) : Calls Try.prog 115 #[.agg #[.int .i64 l, .int .i64 s], .agg #[.int .i64 m, .int .i64 t]] w fun e w' => e = .returned (.bool b) ∧ Below w.heap.size w w' := by
  subst hb
  exact (LabC.below2_spec l s m t w).mono fun e w' ⟨he, hw⟩ => ⟨he, by rw [← hw]; exact ((Below.refl _ _).alloc (Nat.le_refl _) _).alloc (by simp) _⟩

set_option maxRecDepth 100000 in
set_option maxHeartbeats 3200000 in
theorem chain_rd {L : List D_Label} {a : Option Addr} {cap : Nat} {W : World} (h : RdSl R_Label W W.heap.size L a cap) :
    Calls Try.prog 114 #[.slice a L.length cap] W (ResB (ChainR L) W) := by
  have H := Lib.hid h
  clear h
  by_cases n1 : 1 ≤ L.length
  rotate_left
  · have hd : decide ((L.length : Int) < 1) = true := decide_eq_true (by omega)
    have HN := Lib.hid (show ¬ ChainR L from fun h => n1 h.1)
    go_enter Try.func114, Try.ntmps114
    go_wp2
    go_ret
    exact resB_no HN.out (Below.refl _ _)
  have hd1 : decide ((L.length : Int) < 1) = false := decide_eq_false (by omega)
  by_cases n4 : L.length ≤ 4
  rotate_left
  · have hd : decide (4 < (L.length : Int)) = true := decide_eq_true (by omega)
    have HN := Lib.hid (show ¬ ChainR L from fun h => n4 h.2.1)
    go_enter Try.func114, Try.ntmps114
    go_wp2
    go_ret
    exact resB_no HN.out (Below.refl _ _)
  have hd4 : decide (4 < (L.length : Int)) = false := decide_eq_false (by omega)
  go_enter Try.func114, Try.ntmps114
  go_wp2
  go_loopw [3] (fun i wr => ∃ k : Nat, k ≤ L.length ∧ i = .int .i64 k ∧ Hid (∀ j, j < k → okC L j) ∧ Below W.heap.size W wr) (fun i _ => L.length - (intOf i).toNat)
  case atStart => exact ⟨0, Nat.zero_le _, rfl, Lib.hid fun j h => absurd h (Nat.not_lt_zero _), Below.refl _ _⟩
  case round =>
    obtain ⟨k, hk, rfl, HA, hB⟩ := hrel
    have HB := Lib.hid hB
    have hsz := hB.size
    by_cases hlt : k < L.length
    · obtain ⟨⟨x0, x1⟩, hx⟩ := el_some hlt
      have HX := Lib.hid hx
      obtain ⟨g, o, us, rfl, hg, hu, hr⟩ := (H.out.below R_Label_ok hB).at_ hx
      obtain rfl := rd_Label hr
      have e0 : wr.cell? ⟨g, o + k * 2, none⟩ = some (.int .i64 x0) := by simpa [size_Lab, Nat.add_assoc] using hu 0 _ rfl
      have e1 : wr.cell? ⟨g, o + k * 2 + 1, none⟩ = some (.int .i64 x1) := by simpa [size_Lab, Nat.add_assoc] using hu 1 _ rfl
      have hgl : g < wr.heap.size := Nat.lt_of_lt_of_le hg hsz
      have hi0 : (0 : Int) ≤ (k : Int) := Int.natCast_nonneg _
      have hi1 : (k : Int) < (L.length : Int) := by omega
      clear hB hx hu hr
      cases hr : LabC.rB x0 x1 with
      | false =>
        have HNo := Lib.hid (show ¬ ChainR L from fun h => by have := (h.2.2 k hlt _ HX.out).1; rw [hr] at this; cases this)
        have HR := Lib.hid hr
        clear hr
        go_wp2_with fail
        refine wp_region_held_drew (S := (fun V => Below (wr).heap.size (wr) V)) (by kernel_rfl) ((Below.refl _ _).drew) (fun hHeld => ?_)
        refine tk 0 hHeld ?_
        refine tk 1 hHeld ?_
        refine tk 2 hHeld ?_
        refine tk 3 hHeld ?_ (hy := fun w hSw => by (try dsimp only at hSw); have k0 := (hSw.cell (p := ⟨g, o + k * 2, none⟩) hgl).trans e0; have k1 := (hSw.cell (p := ⟨g, o + k * 2 + 1, none⟩) hgl).trans e1; clear hSw; go_simp; try with_reducible rfl)
        refine rd1 4 (fun K hK => ?_)
        go_simp
        go_at_call 94
        refine (lab_below x0 x1 HR.out _).mono ?_
        rintro e w1 ⟨rfl, hb⟩
        refine hK.out _ _ (hHeld.trans (hb.mono hHeld.size)) (fun hHeld => ?_)
        clear hK K hb
        refine tk 5 hHeld ?_
        refine tk 6 hHeld ?_
        refine tn 7 hHeld ?_
        refine tn 8 hHeld ?_
        refine tn 9 hHeld ?_
        refine tn 10 hHeld ?_
        refine tn 11 hHeld ?_
        refine tn 12 hHeld ?_
        refine tn 13 hHeld ?_
        refine tn 14 hHeld ?_
        refine tn 15 hHeld ?_
        refine tn 16 hHeld ?_
        refine tn 17 hHeld ?_
        refine tn 18 hHeld ?_
        refine tn 19 hHeld ?_
        refine tn 20 hHeld ?_
        refine tn 21 hHeld ?_
        refine tn 22 hHeld ?_
        refine tn 23 hHeld ?_
        refine tn 24 hHeld ?_
        refine tn 25 hHeld ?_
        refine tn 26 hHeld ?_
        refine tn 27 hHeld ?_
        refine tn 28 hHeld ?_
        refine tn 29 hHeld ?_
        refine tn 30 hHeld ?_
        refine tn 31 hHeld ?_
        refine tn 32 hHeld ?_
        refine tn 33 hHeld ?_
        refine tk 34 hHeld ?_
        refine rd0 ?_
        have HF := Lib.hid hHeld
        clear hHeld
        have HB3 := Lib.hid (HB.out.trans (HF.out.mono hsz))
        clear HF
        go_wp2
        go_ret
        exact resB_no HNo.out HB3.out
      | true =>
        have HR := Lib.hid hr
        clear hr
        rcases Nat.eq_zero_or_pos k with hk0 | hk0
        · subst hk0
          have hz : decide ((0 : Int) < ((0 : Nat) : Int)) = false := rfl
          have HOK := Lib.hid (all_step HA.out (okC_first HX.out HR.out))
          have e0' : wr.cell? ⟨g, o, none⟩ = some (.int .i64 x0) := by simpa using e0
          have e1' : wr.cell? ⟨g, o + 1, none⟩ = some (.int .i64 x1) := by simpa using e1
          clear e0 e1
          go_wp2_with fail
          refine wp_region_held_drew (S := (fun V => Below (wr).heap.size (wr) V)) (by kernel_rfl) ((Below.refl _ _).drew) (fun hHeld => ?_)
          refine tk 0 hHeld ?_
          refine tk 1 hHeld ?_
          refine tk 2 hHeld ?_
          refine tk 3 hHeld ?_ (hy := fun w hSw => by (try dsimp only at hSw); have k0 := (hSw.cell (p := ⟨g, o, none⟩) hgl).trans e0'; have k1 := (hSw.cell (p := ⟨g, o + 1, none⟩) hgl).trans e1'; clear hSw; go_simp; try with_reducible rfl)
          refine rd1 4 (fun K hK => ?_)
          go_simp
          go_at_call 94
          refine (lab_below x0 x1 HR.out _).mono ?_
          rintro e w1 ⟨rfl, hb⟩
          refine hK.out _ _ (hHeld.trans (hb.mono hHeld.size)) (fun hHeld => ?_)
          clear hK K hb
          refine tk 5 hHeld ?_
          refine tk 6 hHeld ?_
          refine tk 7 hHeld ?_
          refine tk 8 hHeld ?_
          refine tk 9 hHeld ?_
          refine tn 10 hHeld ?_
          refine tn 11 hHeld ?_
          refine tn 12 hHeld ?_
          refine tn 13 hHeld ?_
          refine tn 14 hHeld ?_
          refine tn 15 hHeld ?_
          refine tn 16 hHeld ?_
          refine tn 17 hHeld ?_
          refine tn 18 hHeld ?_
          refine tn 19 hHeld ?_
          refine tn 20 hHeld ?_
          refine tn 21 hHeld ?_
          refine tn 22 hHeld ?_
          refine tn 23 hHeld ?_
          refine tn 24 hHeld ?_
          refine tn 25 hHeld ?_
          refine tn 26 hHeld ?_
          refine tn 27 hHeld ?_
          refine tn 28 hHeld ?_
          refine tn 29 hHeld ?_
          refine tn 30 hHeld ?_
          refine tn 31 hHeld ?_
          refine tn 32 hHeld ?_
          refine tk 33 hHeld ?_
          refine tk 34 hHeld ?_
          refine rd0 ?_
          have HF := Lib.hid hHeld
          clear hHeld
          have HB3 := Lib.hid (HB.out.trans (HF.out.mono hsz))
          clear HF
          go_wp2
          go_roundw
          case rel => exact ⟨1, by omega, by go_num, HOK, HB3.out⟩
          case measure => simp [intOf]; omega
        · obtain ⟨j, rfl⟩ : ∃ j, k = j + 1 := ⟨k - 1, by omega⟩
          obtain ⟨⟨y0, y1⟩, hy⟩ := el_some (L := L) (k := j) (by omega)
          have HY := Lib.hid hy
          obtain ⟨g2, o2, us, he, hg2, hu, hr⟩ := (H.out.below R_Label_ok HB.out).at_ hy
          cases he
          obtain rfl := rd_Label hr
          have d0 : wr.cell? ⟨g, o + j * 2, none⟩ = some (.int .i64 y0) := by simpa [size_Lab, Nat.add_assoc] using hu 0 _ rfl
          have d1 : wr.cell? ⟨g, o + j * 2 + 1, none⟩ = some (.int .i64 y1) := by simpa [size_Lab, Nat.add_assoc] using hu 1 _ rfl
          have hj0 : (0 : Int) ≤ (j : Int) := Int.natCast_nonneg _
          have hj1 : (j : Int) < (L.length : Int) := by omega
          have hi0p : (0 : Int) ≤ (j : Int) + 1 := by omega
          have hi1p : (j : Int) + 1 < (L.length : Int) := by omega
          have hjw : IntKind.i64.wrap ((j : Int) + 1 - 1) = (j : Int) := by rw [show (j : Int) + 1 - 1 = (j : Int) by omega]; exact IntWalk.i64_in _ (by omega)
          have hjw2 : IntKind.i64.wrap (j : Int) = (j : Int) := IntWalk.i64_in _ (by omega)
          have hjp : decide ((0 : Int) < (j : Int) + 1) = true := decide_eq_true (by omega)
          clear hy hu hr hg2
          cases hbb : LabC.bB y0 y1 x0 x1 with
          | false =>
            have HNo := Lib.hid (show ¬ ChainR L from fun h => by have := ((h.2.2 (j + 1) hlt _ HX.out).2 (Nat.succ_pos _) (y0, y1) HY.out).1; rw [hbb] at this; cases this)
            have HBB := Lib.hid hbb
            clear hbb
            go_wp2_with fail
            refine wp_region_held_drew (S := (fun V => Below (wr).heap.size (wr) V)) (by kernel_rfl) ((Below.refl _ _).drew) (fun hHeld => ?_)
            refine tk 0 hHeld ?_
            refine tk 1 hHeld ?_
            refine tk 2 hHeld ?_
            refine tk 3 hHeld ?_ (hy := fun w hSw => by (try dsimp only at hSw); have k0 := (hSw.cell (p := ⟨g, o + (j + 1) * 2, none⟩) hgl).trans e0; have k1 := (hSw.cell (p := ⟨g, o + (j + 1) * 2 + 1, none⟩) hgl).trans e1; clear hSw; go_simp; try with_reducible rfl)
            refine rd1 4 (fun K hK => ?_)
            go_simp
            go_at_call 94
            refine (lab_below x0 x1 HR.out _).mono ?_
            rintro e w1 ⟨rfl, hb⟩
            refine hK.out _ _ (hHeld.trans (hb.mono hHeld.size)) (fun hHeld => ?_)
            clear hK K hb
            refine tk 5 hHeld ?_
            refine tk 6 hHeld ?_
            refine tk 7 hHeld ?_
            refine tk 8 hHeld ?_
            refine tk 9 hHeld ?_
            refine tk 10 hHeld ?_
            refine tk 11 hHeld ?_
            refine tk 12 hHeld ?_
            refine tk 13 hHeld ?_
            refine tk 14 hHeld ?_ (hy := fun w hSw => by (try dsimp only at hSw); have k0 := (hSw.cell (p := ⟨g, o + j * 2, none⟩) hgl).trans d0; have k1 := (hSw.cell (p := ⟨g, o + j * 2 + 1, none⟩) hgl).trans d1; clear hSw; go_simp; try with_reducible rfl)
            refine tk 15 hHeld ?_
            refine tk 16 hHeld ?_
            refine tk 17 hHeld ?_
            refine tk 18 hHeld ?_ (hy := fun w hSw => by (try dsimp only at hSw); have k0 := (hSw.cell (p := ⟨g, o + (j + 1) * 2, none⟩) hgl).trans e0; have k1 := (hSw.cell (p := ⟨g, o + (j + 1) * 2 + 1, none⟩) hgl).trans e1; clear hSw; go_simp; try with_reducible rfl)
            refine rd1 19 (fun K hK => ?_)
            go_simp
            go_at_call 115
            refine (below2_at y0 y1 x0 x1 HBB.out _).mono ?_
            rintro e w2 ⟨rfl, hb⟩
            refine hK.out _ _ (hHeld.trans (hb.mono hHeld.size)) (fun hHeld => ?_)
            clear hK K hb
            refine tk 20 hHeld ?_
            refine tk 21 hHeld ?_
            refine tn 22 hHeld ?_
            refine tn 23 hHeld ?_
            refine tn 24 hHeld ?_
            refine tn 25 hHeld ?_
            refine tn 26 hHeld ?_
            refine tn 27 hHeld ?_
            refine tn 28 hHeld ?_
            refine tn 29 hHeld ?_
            refine tn 30 hHeld ?_
            refine tn 31 hHeld ?_
            refine tk 32 hHeld ?_
            refine tk 33 hHeld ?_
            refine tk 34 hHeld ?_
            refine rd0 ?_
            have HF := Lib.hid hHeld
            clear hHeld
            have HB3 := Lib.hid (HB.out.trans (HF.out.mono hsz))
            clear HF
            go_wp2
            go_ret
            exact resB_no HNo.out HB3.out
          | true =>
            have HBB := Lib.hid hbb
            clear hbb
            cases c1 : (y0 == x0) with
            | false =>
              have HOK := Lib.hid (all_step HA.out (okC_next HX.out HY.out HR.out HBB.out (fun e => by have := congrArg Prod.fst e; simp at c1; exact c1 this)))
              go_wp2_with fail
              refine wp_region_held_drew (S := (fun V => Below (wr).heap.size (wr) V)) (by kernel_rfl) ((Below.refl _ _).drew) (fun hHeld => ?_)
              refine tk 0 hHeld ?_
              refine tk 1 hHeld ?_
              refine tk 2 hHeld ?_
              refine tk 3 hHeld ?_ (hy := fun w hSw => by (try dsimp only at hSw); have k0 := (hSw.cell (p := ⟨g, o + (j + 1) * 2, none⟩) hgl).trans e0; have k1 := (hSw.cell (p := ⟨g, o + (j + 1) * 2 + 1, none⟩) hgl).trans e1; clear hSw; go_simp; try with_reducible rfl)
              refine rd1 4 (fun K hK => ?_)
              go_simp
              go_at_call 94
              refine (lab_below x0 x1 HR.out _).mono ?_
              rintro e w1 ⟨rfl, hb⟩
              refine hK.out _ _ (hHeld.trans (hb.mono hHeld.size)) (fun hHeld => ?_)
              clear hK K hb
              refine tk 5 hHeld ?_
              refine tk 6 hHeld ?_
              refine tk 7 hHeld ?_
              refine tk 8 hHeld ?_
              refine tk 9 hHeld ?_
              refine tk 10 hHeld ?_
              refine tk 11 hHeld ?_
              refine tk 12 hHeld ?_
              refine tk 13 hHeld ?_
              refine tk 14 hHeld ?_ (hy := fun w hSw => by (try dsimp only at hSw); have k0 := (hSw.cell (p := ⟨g, o + j * 2, none⟩) hgl).trans d0; have k1 := (hSw.cell (p := ⟨g, o + j * 2 + 1, none⟩) hgl).trans d1; clear hSw; go_simp; try with_reducible rfl)
              refine tk 15 hHeld ?_
              refine tk 16 hHeld ?_
              refine tk 17 hHeld ?_
              refine tk 18 hHeld ?_ (hy := fun w hSw => by (try dsimp only at hSw); have k0 := (hSw.cell (p := ⟨g, o + (j + 1) * 2, none⟩) hgl).trans e0; have k1 := (hSw.cell (p := ⟨g, o + (j + 1) * 2 + 1, none⟩) hgl).trans e1; clear hSw; go_simp; try with_reducible rfl)
              refine rd1 19 (fun K hK => ?_)
              go_simp
              go_at_call 115
              refine (below2_at y0 y1 x0 x1 HBB.out _).mono ?_
              rintro e w2 ⟨rfl, hb⟩
              refine hK.out _ _ (hHeld.trans (hb.mono hHeld.size)) (fun hHeld => ?_)
              clear hK K hb
              refine tk 20 hHeld ?_
              refine tk 21 hHeld ?_
              refine tk 22 hHeld ?_
              refine tk 23 hHeld ?_
              refine tk 24 hHeld ?_
              refine tk 25 hHeld ?_
              refine tk 26 hHeld ?_ (hy := fun w hSw => by (try dsimp only at hSw); have k0 := (hSw.cell (p := ⟨g, o + j * 2, none⟩) hgl).trans d0; have k1 := (hSw.cell (p := ⟨g, o + j * 2 + 1, none⟩) hgl).trans d1; clear hSw; go_simp; try with_reducible rfl)
              refine tk 27 hHeld ?_
              refine tk 28 hHeld ?_
              refine tk 29 hHeld ?_
              refine tk 30 hHeld ?_ (hy := fun w hSw => by (try dsimp only at hSw); have k0 := (hSw.cell (p := ⟨g, o + (j + 1) * 2, none⟩) hgl).trans e0; have k1 := (hSw.cell (p := ⟨g, o + (j + 1) * 2 + 1, none⟩) hgl).trans e1; clear hSw; go_simp; try with_reducible rfl)
              refine tk 31 hHeld ?_
              refine tk 32 hHeld ?_
              refine tk 33 hHeld ?_
              refine tk 34 hHeld ?_
              refine rd0 ?_
              have HF := Lib.hid hHeld
              clear hHeld
              have HB3 := Lib.hid (HB.out.trans (HF.out.mono hsz))
              clear HF
              go_wp2
              go_roundw
              case rel => exact ⟨j + 2, by omega, by go_num, HOK, HB3.out⟩
              case measure => simp [intOf]; omega
            | true =>
              cases c2 : (y1 == x1) with
              | false =>
                have HOK := Lib.hid (all_step HA.out (okC_next HX.out HY.out HR.out HBB.out (fun e => by have := congrArg Prod.snd e; simp at c2; exact c2 this)))
                go_wp2_with fail
                refine wp_region_held_drew (S := (fun V => Below (wr).heap.size (wr) V)) (by kernel_rfl) ((Below.refl _ _).drew) (fun hHeld => ?_)
                refine tk 0 hHeld ?_
                refine tk 1 hHeld ?_
                refine tk 2 hHeld ?_
                refine tk 3 hHeld ?_ (hy := fun w hSw => by (try dsimp only at hSw); have k0 := (hSw.cell (p := ⟨g, o + (j + 1) * 2, none⟩) hgl).trans e0; have k1 := (hSw.cell (p := ⟨g, o + (j + 1) * 2 + 1, none⟩) hgl).trans e1; clear hSw; go_simp; try with_reducible rfl)
                refine rd1 4 (fun K hK => ?_)
                go_simp
                go_at_call 94
                refine (lab_below x0 x1 HR.out _).mono ?_
                rintro e w1 ⟨rfl, hb⟩
                refine hK.out _ _ (hHeld.trans (hb.mono hHeld.size)) (fun hHeld => ?_)
                clear hK K hb
                refine tk 5 hHeld ?_
                refine tk 6 hHeld ?_
                refine tk 7 hHeld ?_
                refine tk 8 hHeld ?_
                refine tk 9 hHeld ?_
                refine tk 10 hHeld ?_
                refine tk 11 hHeld ?_
                refine tk 12 hHeld ?_
                refine tk 13 hHeld ?_
                refine tk 14 hHeld ?_ (hy := fun w hSw => by (try dsimp only at hSw); have k0 := (hSw.cell (p := ⟨g, o + j * 2, none⟩) hgl).trans d0; have k1 := (hSw.cell (p := ⟨g, o + j * 2 + 1, none⟩) hgl).trans d1; clear hSw; go_simp; try with_reducible rfl)
                refine tk 15 hHeld ?_
                refine tk 16 hHeld ?_
                refine tk 17 hHeld ?_
                refine tk 18 hHeld ?_ (hy := fun w hSw => by (try dsimp only at hSw); have k0 := (hSw.cell (p := ⟨g, o + (j + 1) * 2, none⟩) hgl).trans e0; have k1 := (hSw.cell (p := ⟨g, o + (j + 1) * 2 + 1, none⟩) hgl).trans e1; clear hSw; go_simp; try with_reducible rfl)
                refine rd1 19 (fun K hK => ?_)
                go_simp
                go_at_call 115
                refine (below2_at y0 y1 x0 x1 HBB.out _).mono ?_
                rintro e w2 ⟨rfl, hb⟩
                refine hK.out _ _ (hHeld.trans (hb.mono hHeld.size)) (fun hHeld => ?_)
                clear hK K hb
                refine tk 20 hHeld ?_
                refine tk 21 hHeld ?_
                refine tk 22 hHeld ?_
                refine tk 23 hHeld ?_
                refine tk 24 hHeld ?_
                refine tk 25 hHeld ?_
                refine tk 26 hHeld ?_ (hy := fun w hSw => by (try dsimp only at hSw); have k0 := (hSw.cell (p := ⟨g, o + j * 2, none⟩) hgl).trans d0; have k1 := (hSw.cell (p := ⟨g, o + j * 2 + 1, none⟩) hgl).trans d1; clear hSw; go_simp; try with_reducible rfl)
                refine tk 27 hHeld ?_
                refine tk 28 hHeld ?_
                refine tk 29 hHeld ?_
                refine tk 30 hHeld ?_ (hy := fun w hSw => by (try dsimp only at hSw); have k0 := (hSw.cell (p := ⟨g, o + (j + 1) * 2, none⟩) hgl).trans e0; have k1 := (hSw.cell (p := ⟨g, o + (j + 1) * 2 + 1, none⟩) hgl).trans e1; clear hSw; go_simp; try with_reducible rfl)
                refine tk 31 hHeld ?_
                refine tk 32 hHeld ?_
                refine tk 33 hHeld ?_
                refine tk 34 hHeld ?_
                refine rd0 ?_
                have HF := Lib.hid hHeld
                clear hHeld
                have HB3 := Lib.hid (HB.out.trans (HF.out.mono hsz))
                clear HF
                go_wp2
                go_roundw
                case rel => exact ⟨j + 2, by omega, by go_num, HOK, HB3.out⟩
                case measure => simp [intOf]; omega
              | true =>
                have HNo := Lib.hid (show ¬ ChainR L from fun h => ((h.2.2 (j + 1) hlt _ HX.out).2 (Nat.succ_pos _) (y0, y1) HY.out).2 (by rw [beq_iff_eq] at c1 c2; rw [c1, c2]))
                go_wp2_with fail
                refine wp_region_held_drew (S := (fun V => Below (wr).heap.size (wr) V)) (by kernel_rfl) ((Below.refl _ _).drew) (fun hHeld => ?_)
                refine tk 0 hHeld ?_
                refine tk 1 hHeld ?_
                refine tk 2 hHeld ?_
                refine tk 3 hHeld ?_ (hy := fun w hSw => by (try dsimp only at hSw); have k0 := (hSw.cell (p := ⟨g, o + (j + 1) * 2, none⟩) hgl).trans e0; have k1 := (hSw.cell (p := ⟨g, o + (j + 1) * 2 + 1, none⟩) hgl).trans e1; clear hSw; go_simp; try with_reducible rfl)
                refine rd1 4 (fun K hK => ?_)
                go_simp
                go_at_call 94
                refine (lab_below x0 x1 HR.out _).mono ?_
                rintro e w1 ⟨rfl, hb⟩
                refine hK.out _ _ (hHeld.trans (hb.mono hHeld.size)) (fun hHeld => ?_)
                clear hK K hb
                refine tk 5 hHeld ?_
                refine tk 6 hHeld ?_
                refine tk 7 hHeld ?_
                refine tk 8 hHeld ?_
                refine tk 9 hHeld ?_
                refine tk 10 hHeld ?_
                refine tk 11 hHeld ?_
                refine tk 12 hHeld ?_
                refine tk 13 hHeld ?_
                refine tk 14 hHeld ?_ (hy := fun w hSw => by (try dsimp only at hSw); have k0 := (hSw.cell (p := ⟨g, o + j * 2, none⟩) hgl).trans d0; have k1 := (hSw.cell (p := ⟨g, o + j * 2 + 1, none⟩) hgl).trans d1; clear hSw; go_simp; try with_reducible rfl)
                refine tk 15 hHeld ?_
                refine tk 16 hHeld ?_
                refine tk 17 hHeld ?_
                refine tk 18 hHeld ?_ (hy := fun w hSw => by (try dsimp only at hSw); have k0 := (hSw.cell (p := ⟨g, o + (j + 1) * 2, none⟩) hgl).trans e0; have k1 := (hSw.cell (p := ⟨g, o + (j + 1) * 2 + 1, none⟩) hgl).trans e1; clear hSw; go_simp; try with_reducible rfl)
                refine rd1 19 (fun K hK => ?_)
                go_simp
                go_at_call 115
                refine (below2_at y0 y1 x0 x1 HBB.out _).mono ?_
                rintro e w2 ⟨rfl, hb⟩
                refine hK.out _ _ (hHeld.trans (hb.mono hHeld.size)) (fun hHeld => ?_)
                clear hK K hb
                refine tk 20 hHeld ?_
                refine tk 21 hHeld ?_
                refine tk 22 hHeld ?_
                refine tk 23 hHeld ?_
                refine tk 24 hHeld ?_
                refine tk 25 hHeld ?_
                refine tk 26 hHeld ?_ (hy := fun w hSw => by (try dsimp only at hSw); have k0 := (hSw.cell (p := ⟨g, o + j * 2, none⟩) hgl).trans d0; have k1 := (hSw.cell (p := ⟨g, o + j * 2 + 1, none⟩) hgl).trans d1; clear hSw; go_simp; try with_reducible rfl)
                refine tk 27 hHeld ?_
                refine tk 28 hHeld ?_
                refine tk 29 hHeld ?_
                refine tk 30 hHeld ?_ (hy := fun w hSw => by (try dsimp only at hSw); have k0 := (hSw.cell (p := ⟨g, o + (j + 1) * 2, none⟩) hgl).trans e0; have k1 := (hSw.cell (p := ⟨g, o + (j + 1) * 2 + 1, none⟩) hgl).trans e1; clear hSw; go_simp; try with_reducible rfl)
                refine tk 31 hHeld ?_
                refine tk 32 hHeld ?_
                refine tk 33 hHeld ?_
                refine tk 34 hHeld ?_
                refine rd0 ?_
                have HF := Lib.hid hHeld
                clear hHeld
                have HB3 := Lib.hid (HB.out.trans (HF.out.mono hsz))
                clear HF
                go_wp2
                go_ret
                exact resB_no HNo.out HB3.out
    · have HY := Lib.hid (show ChainR L from ⟨n1, n4, fun i hi => HA.out i (by omega)⟩)
      clear hB
      go_wp2
      go_ret
      exact resB_yes HY.out HB.out
set_option maxRecDepth 100000 in
set_option maxHeartbeats 3200000 in
theorem cleared_spec {L : List D_Label} {a : Option Addr} {cap : Nat} {l s : Int} {W : World} (h : RdSl R_Label W W.heap.size L a cap) :
    Calls Try.prog 42 #[.slice a L.length cap, .agg #[.int .i64 l, .int .i64 s]] W (ResB ((l, s) ∈ L) W) := by
  have hn : L.length ≤ 9223372036854775807 := by have h1 := h.1; have h2 := h.2.1; unfold maxLen at h2; omega
  have H := Lib.hid h
  clear h
  have HB0 := Lib.hid (show Below W.heap.size W (W.alloc (.cells #[.int .i64 l, .int .i64 s] 38)) from (Below.refl _ _).alloc (Nat.le_refl _) _)
  have HP0 := Lib.hid (Blk.new W 38 #[.int .i64 l, .int .i64 s])
  go_enter Try.func42, Try.ntmps42
  go_wp2
  go_loopw [5] (fun i wr => ∃ k : Nat, k ≤ L.length ∧ i = .int .i64 k ∧ Hid ((l, s) ∉ L.take k) ∧ Below W.heap.size W wr ∧ Hid (Blk wr W.heap.size 38 #[.int .i64 l, .int .i64 s])) (fun i _ => L.length - (intOf i).toNat)
  case atStart => exact ⟨0, Nat.zero_le _, rfl, Lib.hid (by simp), HB0.out, HP0⟩
  case round =>
    obtain ⟨k, hk, rfl, HA, hB, HP⟩ := hrel
    have HB := Lib.hid hB
    have hsz := hB.size
    by_cases hlt : k < L.length
    · obtain ⟨⟨x0, x1⟩, hx⟩ := el_some hlt
      have HX := Lib.hid hx
      obtain ⟨g, o, us, rfl, hg, hu, hr⟩ := (H.out.below R_Label_ok hB).at_ hx
      obtain rfl := rd_Label hr
      have e0 : wr.cell? ⟨g, o + k * 2, none⟩ = some (.int .i64 x0) := by simpa [size_Lab, Nat.add_assoc] using hu 0 _ rfl
      have e1 : wr.cell? ⟨g, o + k * 2 + 1, none⟩ = some (.int .i64 x1) := by simpa [size_Lab, Nat.add_assoc] using hu 1 _ rfl
      have hgl : g < wr.heap.size := Nat.lt_of_lt_of_le hg hsz
      have hi0 : (0 : Int) ≤ (k : Int) := Int.natCast_nonneg _
      have hi1 : (k : Int) < (L.length : Int) := by omega
      have hq0 := HP.out.at_ 0 rfl
      have hq1 := HP.out.at_ 1 rfl
      have hpl := HP.out.lt
      clear hB hx hu hr
      cases c1 : (x0 == l) with
      | false =>
        have HC := Lib.hid (show (l, s) ∉ L.take (k + 1) from by rw [List.take_add_one, HX.out]; simp at c1 ⊢; exact ⟨HA.out, fun e => absurd e.symm c1⟩)
        go_wp2_with fail
        refine wp_region_held_drew (S := (fun V => Below (wr).heap.size (wr) V)) (by kernel_rfl) ((Below.refl _ _).drew) (fun hHeld => ?_)
        refine tk 0 hHeld ?_
        refine tk 1 hHeld ?_
        refine tk 2 hHeld ?_
        refine tk 3 hHeld ?_ (hy := fun w hSw => by (try dsimp only at hSw); have k0 := (hSw.cell (p := ⟨g, o + k * 2, none⟩) hgl).trans e0; have k1 := (hSw.cell (p := ⟨g, o + k * 2 + 1, none⟩) hgl).trans e1; clear hSw; go_simp; try with_reducible rfl)
        refine tk 4 hHeld ?_ (hy := fun w hSw => by (try dsimp only at hSw); have k0 := (hSw.cell (p := ⟨W.heap.size, 0, none⟩) hpl).trans hq0; have k1 := (hSw.cell (p := ⟨W.heap.size, 1, none⟩) hpl).trans hq1; clear hSw; go_simp; try with_reducible rfl)
        refine tk 5 hHeld ?_
        refine rd0 ?_
        have HF := Lib.hid hHeld
        clear hHeld
        have HB3 := Lib.hid (HB.out.trans (HF.out.mono hsz))
        have HP3 := Lib.hid (HP.out.call HF.out)
        clear HF
        go_wp2
        go_roundw
        case rel => exact ⟨k + 1, by omega, by go_num, HC, HB3.out, HP3⟩
        case measure => simp [intOf]; omega
      | true =>
        cases c2 : (x1 == s) with
        | false =>
          have HC := Lib.hid (show (l, s) ∉ L.take (k + 1) from by rw [List.take_add_one, HX.out]; simp at c2 ⊢; exact ⟨HA.out, fun _ e => absurd e.symm c2⟩)
          go_wp2_with fail
          refine wp_region_held_drew (S := (fun V => Below (wr).heap.size (wr) V)) (by kernel_rfl) ((Below.refl _ _).drew) (fun hHeld => ?_)
          refine tk 0 hHeld ?_
          refine tk 1 hHeld ?_
          refine tk 2 hHeld ?_
          refine tk 3 hHeld ?_ (hy := fun w hSw => by (try dsimp only at hSw); have k0 := (hSw.cell (p := ⟨g, o + k * 2, none⟩) hgl).trans e0; have k1 := (hSw.cell (p := ⟨g, o + k * 2 + 1, none⟩) hgl).trans e1; clear hSw; go_simp; try with_reducible rfl)
          refine tk 4 hHeld ?_ (hy := fun w hSw => by (try dsimp only at hSw); have k0 := (hSw.cell (p := ⟨W.heap.size, 0, none⟩) hpl).trans hq0; have k1 := (hSw.cell (p := ⟨W.heap.size, 1, none⟩) hpl).trans hq1; clear hSw; go_simp; try with_reducible rfl)
          refine tk 5 hHeld ?_
          refine rd0 ?_
          have HF := Lib.hid hHeld
          clear hHeld
          have HB3 := Lib.hid (HB.out.trans (HF.out.mono hsz))
          have HP3 := Lib.hid (HP.out.call HF.out)
          clear HF
          go_wp2
          go_roundw
          case rel => exact ⟨k + 1, by omega, by go_num, HC, HB3.out, HP3⟩
          case measure => simp [intOf]; omega
        | true =>
          have HY := Lib.hid (show (l, s) ∈ L from by rw [beq_iff_eq] at c1 c2; subst c1 c2; exact List.mem_of_getElem? HX.out)
          go_wp2_with fail
          refine wp_region_held_drew (S := (fun V => Below (wr).heap.size (wr) V)) (by kernel_rfl) ((Below.refl _ _).drew) (fun hHeld => ?_)
          refine tk 0 hHeld ?_
          refine tk 1 hHeld ?_
          refine tk 2 hHeld ?_
          refine tk 3 hHeld ?_ (hy := fun w hSw => by (try dsimp only at hSw); have k0 := (hSw.cell (p := ⟨g, o + k * 2, none⟩) hgl).trans e0; have k1 := (hSw.cell (p := ⟨g, o + k * 2 + 1, none⟩) hgl).trans e1; clear hSw; go_simp; try with_reducible rfl)
          refine tk 4 hHeld ?_ (hy := fun w hSw => by (try dsimp only at hSw); have k0 := (hSw.cell (p := ⟨W.heap.size, 0, none⟩) hpl).trans hq0; have k1 := (hSw.cell (p := ⟨W.heap.size, 1, none⟩) hpl).trans hq1; clear hSw; go_simp; try with_reducible rfl)
          refine tk 5 hHeld ?_
          refine rd0 ?_
          have HF := Lib.hid hHeld
          clear hHeld
          have HB3 := Lib.hid (HB.out.trans (HF.out.mono hsz))
          clear HF
          go_wp2
          go_ret
          exact resB_yes HY.out HB3.out
    · have HN := Lib.hid (show (l, s) ∉ L from by have := HA.out; rw [List.take_of_length_le (by omega)] at this; exact this)
      clear hB
      go_wp2
      go_ret
      exact resB_no HN.out HB.out

theorem size_SLab : (Sl R_Label).size = 1 := rfl
def ClearR (C : List (List D_Label)) : Prop := 1 ≤ C.length ∧ C.length ≤ 6 ∧ ∀ (i : Nat) (x : List D_Label), C[i]? = some x → ChainR x

set_option maxRecDepth 100000 in
set_option maxHeartbeats 3200000 in
theorem clear_spec {C : List (List D_Label)} {a : Option Addr} {cap : Nat} {W : World} (h : RdSl (Sl R_Label) W W.heap.size C a cap) :
    Calls Try.prog 75 #[.slice a C.length cap] W (ResB (ClearR C) W) := by
  have hn : C.length ≤ 9223372036854775807 := by have h1 := h.1; have h2 := h.2.1; unfold maxLen at h2; omega
  have H := Lib.hid h
  clear h
  go_enter Try.func75, Try.ntmps75
  go_wp2
  go_loopw [3] (fun i wr => ∃ k : Nat, k ≤ C.length ∧ k ≤ 7 ∧ i = .int .i64 k ∧ Hid (∀ (j : Nat) (x : List D_Label), j < k → C[j]? = some x → ChainR x) ∧ Below W.heap.size W wr) (fun i _ => C.length - (intOf i).toNat)
  case atStart => exact ⟨0, Nat.zero_le _, by omega, rfl, Lib.hid fun j x h => absurd h (Nat.not_lt_zero _), Below.refl _ _⟩
  case round =>
    obtain ⟨k, hk, hk7, rfl, HA, hB⟩ := hrel
    have HB := Lib.hid hB
    have hsz := hB.size
    by_cases hlt : k < C.length
    · have hd1 : decide ((k : Int) < (C.length : Int)) = true := decide_eq_true (by omega)
      by_cases h6 : k ≤ 6
      · have hd2 : decide ((k : Int) ≤ 6) = true := decide_eq_true (by omega)
        obtain ⟨x, hx⟩ := el_some hlt
        have HX := Lib.hid hx
        obtain ⟨g, o, us, rfl, hg, hu, hr⟩ := (H.out.below (Sl_ok R_Label_ok) hB).at_ hx
        obtain ⟨a1, c1, rfl, hx1⟩ := hr
        have e0 : wr.cell? ⟨g, o + k, none⟩ = some (.slice a1 x.length c1) := by simpa [size_SLab] using hu 0 _ rfl
        have hi0 : (0 : Int) ≤ (k : Int) := Int.natCast_nonneg _
        have hi1 : (k : Int) < (C.length : Int) := by omega
        have HR := Lib.hid (hx1.more R_Label_ok hsz)
        clear hB hx hu hx1
        go_wp2_with fail
        refine (chain_rd HR.out).mono ?_
        intro e w2 h
        obtain ⟨q, rfl, hq, hb⟩ := resB_elim h
        have HB2 := Lib.hid (HB.out.trans (hb.mono hsz))
        clear h hb
        cases q with
        | false =>
          have HN := Lib.hid (show ¬ ClearR C from fun h => by have := hq.2 (h.2.2 k _ HX.out); cases this)
          clear hq
          go_wp2
          go_ret
          exact resB_no HN.out HB2.out
        | true =>
          have HS := Lib.hid (show ∀ (j : Nat) (x : List D_Label), j < k + 1 → C[j]? = some x → ChainR x from fun j y hj hy => by
            by_cases e : j = k
            · subst e
              have := HX.out
              rw [hy] at this
              obtain rfl := Option.some.inj this
              exact hq.1 rfl
            · exact HA.out j y (by omega) hy)
          clear hq
          go_wp2
          go_roundw
          case rel => exact ⟨k + 1, by omega, by omega, by go_num, HS, HB2.out⟩
          case measure => simp [intOf]; omega
      · have hd2 : decide ((k : Int) ≤ 6) = false := decide_eq_false (by omega)
        have hd3 : decide ((1 : Int) ≤ (C.length : Int)) = true := decide_eq_true (by omega)
        have hd4 : decide ((C.length : Int) ≤ 6) = false := decide_eq_false (by omega)
        have HN := Lib.hid (show ¬ ClearR C from fun h => by have := h.2.1; omega)
        clear hB
        go_wp2
        go_ret
        exact resB_no HN.out HB.out
    · have hd1 : decide ((k : Int) < (C.length : Int)) = false := decide_eq_false (by omega)
      by_cases n1 : 1 ≤ C.length
      · have hd3 : decide ((1 : Int) ≤ (C.length : Int)) = true := decide_eq_true (by omega)
        by_cases n6 : C.length ≤ 6
        · have hd4 : decide ((C.length : Int) ≤ 6) = true := decide_eq_true (by omega)
          have HY := Lib.hid (show ClearR C from ⟨n1, n6, fun i x hx => HA.out i x (by have := el_lt hx; omega) hx⟩)
          clear hB
          go_wp2
          go_ret
          exact resB_yes HY.out HB.out
        · have hd4 : decide ((C.length : Int) ≤ 6) = false := decide_eq_false (by omega)
          have HN := Lib.hid (show ¬ ClearR C from fun h => n6 h.2.1)
          clear hB
          go_wp2
          go_ret
          exact resB_no HN.out HB.out
      · have hd3 : decide ((1 : Int) ≤ (C.length : Int)) = false := decide_eq_false (by omega)
        have HN := Lib.hid (show ¬ ClearR C from fun h => n1 h.1)
        clear hB
        go_wp2
        go_ret
        exact resB_no HN.out HB.out
end Go.Proofs.Ytmmnkdilnlhbfaa.RepC
