/- Of this claim's texts the part 4: Clr FlatA FlatB CfP CfS Lift Opn JobO PlOpn CfO CfS2 CfS3 CfL1 CmpL LbC GrwC SortLb LabS CfL2. -/
import Derived.WalkLawsBesides
import Derived.Lib.AppendZeros
import Derived.Lib.SlicesCompact
import Derived.Sort.Statements
import Derived.Deep.RegionHeld3
import Derived.Test.YtelhmacfljffhaaGreatRows
import Derived.ProofKit
import Derived.OpenShut
import Derived.Below
import Derived.Carry
import Derived.ChangeOld
import Derived.Lib.SmallJoins
import Derived.Deep.Slices
import Derived.Shelf.SlicesG.Cmp
import Derived.Ground.SlgcProg
import Derived.Test.YtelhmacfljffhaaGreatProg
import Derived.Sort.Grow
import Derived.Sort.Walk0
import Derived.Shelf.SlSortCmp.WholeK
import Derived.Ground.SlsfProg
import Derived.Lib.SliceRun
import Derived.Test.YtelhmacfljffhaaGreatPR3
section
namespace Go.Proofs.YtelhmacfljffhaaGreat.RepC
open Go.RowKit RowC ValC SpanC KeptC
set_option linter.unusedVariables false
set_option linter.unusedSimpArgs false
theorem is_at (n lo hi : Int) {b : Bool} (hb : isB n lo hi = b) (w : World) :
    Calls Tryz.prog 67 #[.int .i64 n, .int .i64 lo, .int .i64 hi] w fun e w' => e = .returned (.bool b) ∧ w = w' := by
  subst hb
  exact is_spec n lo hi w
theorem lab_below (l s : Int) {b : Bool} (hb : LabC.rB l s = b) (w : World) :
    Calls Tryz.prog 76 #[.agg #[.int .i64 l, .int .i64 s]] w fun e w' => e = .returned (.bool b) ∧ Below w.heap.size w w' := by
  subst hb
  exact (LabC.right_spec l s w).mono fun _ _ ⟨h1, h2⟩ => ⟨h1, by rw [← h2]; exact (Below.refl _ _).alloc (Nat.le_refl _) _⟩
theorem rd_mv {α : Type} {E : Rp α} (hE : Ok E) {L : List α} {a : Option Addr} {c : Nat} {w w' : World} (h : RdSl E w w.heap.size L a c) (hb : Below w.heap.size w w') : RdSl E w' w'.heap.size L a c := (h.below hE hb).more hE hb.size
theorem resB_at {p : Prop} {b : Bool} (hb : b = true ↔ p) {w : World} {e : Ending} {w' : World} (h : ResB p w e w') : e = .returned (.bool b) ∧ Below w.heap.size w w' := by
  obtain ⟨q, rfl, hq, hbl⟩ := resB_elim h
  exact ⟨by rw [show q = b from Bool.eq_iff_iff.2 (hq.trans hb.symm)], hbl⟩
def IsI (n : Int) (w : World) (e : Ending) (w' : World) : Prop := e = .returned (.int .i64 n) ∧ Below w.heap.size w w'
theorem isI_elim {n : Int} {w : World} {e : Ending} {w' : World} (h : IsI n w e w') : e = .returned (.int .i64 n) ∧ Below w.heap.size w w' := h
theorem size_Lab : R_Label.size = 2 := rfl
def okC (L : List D_Label) (i : Nat) : Prop := ∀ x, L[i]? = some x → LabC.rB x.1 x.2 = true ∧ (0 < i → ∀ y, L[i - 1]? = some y → LabC.bB y.1 y.2 x.1 x.2 = true ∧ y ≠ x)
def ChainR (L : List D_Label) : Prop := 1 ≤ L.length ∧ L.length ≤ 4 ∧ ∀ i, i < L.length → okC L i
theorem okC_first {L : List D_Label} {x : D_Label} (hx : L[0]? = some x) (hr : LabC.rB x.1 x.2 = true) : okC L 0 := fun y hy => by
  rw [hx] at hy; obtain rfl := Option.some.inj hy; exact ⟨hr, fun h => absurd h (Nat.lt_irrefl _)⟩
theorem okC_next {L : List D_Label} {j : Nat} {x y : D_Label} (hx : L[j + 1]? = some x) (hy : L[j]? = some y) (hr : LabC.rB x.1 x.2 = true) (hb : LabC.bB y.1 y.2 x.1 x.2 = true) (hne : y ≠ x) : okC L (j + 1) := fun z hz => by
  rw [hx] at hz; obtain rfl := Option.some.inj hz
  refine ⟨hr, fun _ u hu => ?_⟩
  rw [Nat.add_sub_cancel, hy] at hu
  obtain rfl := Option.some.inj hu
  exact ⟨hb, hne⟩
theorem below2_at (l s m t : Int) {b : Bool} (hb : LabC.bB l s m t = b) (w : World) : Calls Tryz.prog 131 #[.agg #[.int .i64 l, .int .i64 s], .agg #[.int .i64 m, .int .i64 t]] w fun e w' => e = .returned (.bool b) ∧ Below w.heap.size w w' := by
  subst hb
  exact (LabC.below2_spec l s m t w).mono fun e w' ⟨he, hw⟩ => ⟨he, by rw [← hw]; exact ((Below.refl _ _).alloc (Nat.le_refl _) _).alloc (by simp) _⟩
set_option maxRecDepth 100000 in
set_option maxHeartbeats 3200000 in
theorem chain_rd {L : List D_Label} {a : Option Addr} {cap : Nat} {W : World} (h : RdSl R_Label W W.heap.size L a cap) :
    Calls Tryz.prog 130 #[.slice a L.length cap] W (ResB (ChainR L) W) := by
  have H := Lib.hid h
  clear h
  by_cases n1 : 1 ≤ L.length
  rotate_left
  · have hd : decide ((L.length : Int) < 1) = true := decide_eq_true (by omega)
    have HN := Lib.hid (show ¬ ChainR L from fun h => n1 h.1)
    go_enter Tryz.func130, Tryz.ntmps130
    go_wp2
    go_ret
    exact resB_no HN.out (Below.refl _ _)
  have hd1 : decide ((L.length : Int) < 1) = false := decide_eq_false (by omega)
  by_cases n4 : L.length ≤ 4
  rotate_left
  · have hd : decide (4 < (L.length : Int)) = true := decide_eq_true (by omega)
    have HN := Lib.hid (show ¬ ChainR L from fun h => n4 h.2.1)
    go_enter Tryz.func130, Tryz.ntmps130
    go_wp2
    go_ret
    exact resB_no HN.out (Below.refl _ _)
  have hd4 : decide (4 < (L.length : Int)) = false := decide_eq_false (by omega)
  go_enter Tryz.func130, Tryz.ntmps130
  go_wp2
  go_loopw [3] (fun i wr => ∃ k : Nat, k ≤ L.length ∧ i = .int .i64 k ∧ Hid (∀ j, j < k → okC L j) ∧ Below W.heap.size W wr) (fun i _ => L.length - (intOf i).toNat)
  case atStart => exact ⟨0, Nat.zero_le _, rfl, Lib.hid fun j h => absurd h (Nat.not_lt_zero _), Below.refl _ _⟩
  case round =>
    obtain ⟨k, hk, rfl, HA, hB⟩ := hrel
    have HB := Lib.hid hB
    have hsz := hB.size
    by_cases hlt : k < L.length
    · obtain ⟨⟨x0, x1⟩, hx⟩ := el_some hlt
      have HX := Lib.hid hx
      obtain ⟨g, o, us, rfl, hg, hu, hr⟩ := (H.out.below R_Label_ok hB).at_ hx
      obtain rfl := rd_Label hr
      have e0 : wr.cell? ⟨g, o + k * 2, none⟩ = some (.int .i64 x0) := by simpa [size_Lab, Nat.add_assoc] using hu 0 _ rfl
      have e1 : wr.cell? ⟨g, o + k * 2 + 1, none⟩ = some (.int .i64 x1) := by simpa [size_Lab, Nat.add_assoc] using hu 1 _ rfl
      have hgl : g < wr.heap.size := Nat.lt_of_lt_of_le hg hsz
      have hi0 : (0 : Int) ≤ (k : Int) := Int.natCast_nonneg _
      have hi1 : (k : Int) < (L.length : Int) := by omega
      clear hB hx hu hr
      cases hr : LabC.rB x0 x1 with
      | false =>
        have HNo := Lib.hid (show ¬ ChainR L from fun h => by have := (h.2.2 k hlt _ HX.out).1; rw [hr] at this; cases this)
        have HR := Lib.hid hr
        clear hr
        go_wp2_with fail
        refine wp_region_held_drew (S := (fun V => Below (wr).heap.size (wr) V)) (by kernel_rfl) ((Below.refl _ _).drew) (fun hHeld => ?_)
        refine tk 0 hHeld ?_
        refine tk 1 hHeld ?_
        refine tk 2 hHeld ?_
        refine tk 3 hHeld ?_ (hy := fun w hSw => by (try dsimp only at hSw); have k0 := (hSw.cell (p := ⟨g, o + k * 2, none⟩) hgl).trans e0; have k1 := (hSw.cell (p := ⟨g, o + k * 2 + 1, none⟩) hgl).trans e1; clear hSw; go_simp; try with_reducible rfl)
        refine rd1 4 (fun K hK => ?_)
        go_simp
        go_at_call 76
        refine (lab_below x0 x1 HR.out _).mono ?_
        rintro e w1 ⟨rfl, hb⟩
        refine hK.out _ _ (hHeld.trans (hb.mono hHeld.size)) (fun hHeld => ?_)
        clear hK K hb
        refine tk 5 hHeld ?_
        refine tk 6 hHeld ?_
        refine tn 7 hHeld ?_
        refine tn 8 hHeld ?_
        refine tn 9 hHeld ?_
        refine tn 10 hHeld ?_
        refine tn 11 hHeld ?_
        refine tn 12 hHeld ?_
        refine tn 13 hHeld ?_
        refine tn 14 hHeld ?_
        refine tn 15 hHeld ?_
        refine tn 16 hHeld ?_
        refine tn 17 hHeld ?_
        refine tn 18 hHeld ?_
        refine tn 19 hHeld ?_
        refine tn 20 hHeld ?_
        refine tn 21 hHeld ?_
        refine tn 22 hHeld ?_
        refine tn 23 hHeld ?_
        refine tn 24 hHeld ?_
        refine tn 25 hHeld ?_
        refine tn 26 hHeld ?_
        refine tn 27 hHeld ?_
        refine tn 28 hHeld ?_
        refine tn 29 hHeld ?_
        refine tn 30 hHeld ?_
        refine tn 31 hHeld ?_
        refine tn 32 hHeld ?_
        refine tn 33 hHeld ?_
        refine tk 34 hHeld ?_
        refine rd0 ?_
        have HF := Lib.hid hHeld
        clear hHeld
        have HB3 := Lib.hid (HB.out.trans (HF.out.mono hsz))
        clear HF
        go_wp2
        go_ret
        exact resB_no HNo.out HB3.out
      | true =>
        have HR := Lib.hid hr
        clear hr
        rcases Nat.eq_zero_or_pos k with hk0 | hk0
        · subst hk0
          have hz : decide ((0 : Int) < ((0 : Nat) : Int)) = false := rfl
          have HOK := Lib.hid (all_step HA.out (okC_first HX.out HR.out))
          have e0' : wr.cell? ⟨g, o, none⟩ = some (.int .i64 x0) := by simpa using e0
          have e1' : wr.cell? ⟨g, o + 1, none⟩ = some (.int .i64 x1) := by simpa using e1
          clear e0 e1
          go_wp2_with fail
          refine wp_region_held_drew (S := (fun V => Below (wr).heap.size (wr) V)) (by kernel_rfl) ((Below.refl _ _).drew) (fun hHeld => ?_)
          refine tk 0 hHeld ?_
          refine tk 1 hHeld ?_
          refine tk 2 hHeld ?_
          refine tk 3 hHeld ?_ (hy := fun w hSw => by (try dsimp only at hSw); have k0 := (hSw.cell (p := ⟨g, o, none⟩) hgl).trans e0'; have k1 := (hSw.cell (p := ⟨g, o + 1, none⟩) hgl).trans e1'; clear hSw; go_simp; try with_reducible rfl)
          refine rd1 4 (fun K hK => ?_)
          go_simp
          go_at_call 76
          refine (lab_below x0 x1 HR.out _).mono ?_
          rintro e w1 ⟨rfl, hb⟩
          refine hK.out _ _ (hHeld.trans (hb.mono hHeld.size)) (fun hHeld => ?_)
          clear hK K hb
          refine tk 5 hHeld ?_
          refine tk 6 hHeld ?_
          refine tk 7 hHeld ?_
          refine tk 8 hHeld ?_
          refine tk 9 hHeld ?_
          refine tn 10 hHeld ?_
          refine tn 11 hHeld ?_
          refine tn 12 hHeld ?_
          refine tn 13 hHeld ?_
          refine tn 14 hHeld ?_
          refine tn 15 hHeld ?_
          refine tn 16 hHeld ?_
          refine tn 17 hHeld ?_
          refine tn 18 hHeld ?_
          refine tn 19 hHeld ?_
          refine tn 20 hHeld ?_
          refine tn 21 hHeld ?_
          refine tn 22 hHeld ?_
          refine tn 23 hHeld ?_
          refine tn 24 hHeld ?_
          refine tn 25 hHeld ?_
          refine tn 26 hHeld ?_
          refine tn 27 hHeld ?_
          refine tn 28 hHeld ?_
          refine tn 29 hHeld ?_
          refine tn 30 hHeld ?_
          refine tn 31 hHeld ?_
          refine tn 32 hHeld ?_
          refine tk 33 hHeld ?_
          refine tk 34 hHeld ?_
          refine rd0 ?_
          have HF := Lib.hid hHeld
          clear hHeld
          have HB3 := Lib.hid (HB.out.trans (HF.out.mono hsz))
          clear HF
          go_wp2
          go_roundw
          case rel => exact ⟨1, by omega, by go_num, HOK, HB3.out⟩
          case measure => simp [intOf]; omega
        · obtain ⟨j, rfl⟩ : ∃ j, k = j + 1 := ⟨k - 1, by omega⟩
          obtain ⟨⟨y0, y1⟩, hy⟩ := el_some (L := L) (k := j) (by omega)
          have HY := Lib.hid hy
          obtain ⟨g2, o2, us, he, hg2, hu, hr⟩ := (H.out.below R_Label_ok HB.out).at_ hy
          cases he
          obtain rfl := rd_Label hr
          have d0 : wr.cell? ⟨g, o + j * 2, none⟩ = some (.int .i64 y0) := by simpa [size_Lab, Nat.add_assoc] using hu 0 _ rfl
          have d1 : wr.cell? ⟨g, o + j * 2 + 1, none⟩ = some (.int .i64 y1) := by simpa [size_Lab, Nat.add_assoc] using hu 1 _ rfl
          have hj0 : (0 : Int) ≤ (j : Int) := Int.natCast_nonneg _
          have hj1 : (j : Int) < (L.length : Int) := by omega
          have hi0p : (0 : Int) ≤ (j : Int) + 1 := by omega
          have hi1p : (j : Int) + 1 < (L.length : Int) := by omega
          have hjw : IntKind.i64.wrap ((j : Int) + 1 - 1) = (j : Int) := by rw [show (j : Int) + 1 - 1 = (j : Int) by omega]; exact IntWalk.i64_in _ (by omega)
          have hjw2 : IntKind.i64.wrap (j : Int) = (j : Int) := IntWalk.i64_in _ (by omega)
          have hjp : decide ((0 : Int) < (j : Int) + 1) = true := decide_eq_true (by omega)
          clear hy hu hr hg2
          cases hbb : LabC.bB y0 y1 x0 x1 with
          | false =>
            have HNo := Lib.hid (show ¬ ChainR L from fun h => by have := ((h.2.2 (j + 1) hlt _ HX.out).2 (Nat.succ_pos _) (y0, y1) HY.out).1; rw [hbb] at this; cases this)
            have HBB := Lib.hid hbb
            clear hbb
            go_wp2_with fail
            refine wp_region_held_drew (S := (fun V => Below (wr).heap.size (wr) V)) (by kernel_rfl) ((Below.refl _ _).drew) (fun hHeld => ?_)
            refine tk 0 hHeld ?_
            refine tk 1 hHeld ?_
            refine tk 2 hHeld ?_
            refine tk 3 hHeld ?_ (hy := fun w hSw => by (try dsimp only at hSw); have k0 := (hSw.cell (p := ⟨g, o + (j + 1) * 2, none⟩) hgl).trans e0; have k1 := (hSw.cell (p := ⟨g, o + (j + 1) * 2 + 1, none⟩) hgl).trans e1; clear hSw; go_simp; try with_reducible rfl)
            refine rd1 4 (fun K hK => ?_)
            go_simp
            go_at_call 76
            refine (lab_below x0 x1 HR.out _).mono ?_
            rintro e w1 ⟨rfl, hb⟩
            refine hK.out _ _ (hHeld.trans (hb.mono hHeld.size)) (fun hHeld => ?_)
            clear hK K hb
            refine tk 5 hHeld ?_
            refine tk 6 hHeld ?_
            refine tk 7 hHeld ?_
            refine tk 8 hHeld ?_
            refine tk 9 hHeld ?_
            refine tk 10 hHeld ?_
            refine tk 11 hHeld ?_
            refine tk 12 hHeld ?_
            refine tk 13 hHeld ?_
            refine tk 14 hHeld ?_ (hy := fun w hSw => by (try dsimp only at hSw); have k0 := (hSw.cell (p := ⟨g, o + j * 2, none⟩) hgl).trans d0; have k1 := (hSw.cell (p := ⟨g, o + j * 2 + 1, none⟩) hgl).trans d1; clear hSw; go_simp; try with_reducible rfl)
            refine tk 15 hHeld ?_
            refine tk 16 hHeld ?_
            refine tk 17 hHeld ?_
            refine tk 18 hHeld ?_ (hy := fun w hSw => by (try dsimp only at hSw); have k0 := (hSw.cell (p := ⟨g, o + (j + 1) * 2, none⟩) hgl).trans e0; have k1 := (hSw.cell (p := ⟨g, o + (j + 1) * 2 + 1, none⟩) hgl).trans e1; clear hSw; go_simp; try with_reducible rfl)
            refine rd1 19 (fun K hK => ?_)
            go_simp
            go_at_call 131
            refine (below2_at y0 y1 x0 x1 HBB.out _).mono ?_
            rintro e w2 ⟨rfl, hb⟩
            refine hK.out _ _ (hHeld.trans (hb.mono hHeld.size)) (fun hHeld => ?_)
            clear hK K hb
            refine tk 20 hHeld ?_
            refine tk 21 hHeld ?_
            refine tn 22 hHeld ?_
            refine tn 23 hHeld ?_
            refine tn 24 hHeld ?_
            refine tn 25 hHeld ?_
            refine tn 26 hHeld ?_
            refine tn 27 hHeld ?_
            refine tn 28 hHeld ?_
            refine tn 29 hHeld ?_
            refine tn 30 hHeld ?_
            refine tn 31 hHeld ?_
            refine tk 32 hHeld ?_
            refine tk 33 hHeld ?_
            refine tk 34 hHeld ?_
            refine rd0 ?_
            have HF := Lib.hid hHeld
            clear hHeld
            have HB3 := Lib.hid (HB.out.trans (HF.out.mono hsz))
            clear HF
            go_wp2
            go_ret
            exact resB_no HNo.out HB3.out
          | true =>
            have HBB := Lib.hid hbb
            clear hbb
            cases c1 : (y0 == x0) with
            | false =>
              have HOK := Lib.hid (all_step HA.out (okC_next HX.out HY.out HR.out HBB.out (fun e => by have := congrArg Prod.fst e; simp at c1; exact c1 this)))
              go_wp2_with fail
              refine wp_region_held_drew (S := (fun V => Below (wr).heap.size (wr) V)) (by kernel_rfl) ((Below.refl _ _).drew) (fun hHeld => ?_)
              refine tk 0 hHeld ?_
              refine tk 1 hHeld ?_
              refine tk 2 hHeld ?_
              refine tk 3 hHeld ?_ (hy := fun w hSw => by (try dsimp only at hSw); have k0 := (hSw.cell (p := ⟨g, o + (j + 1) * 2, none⟩) hgl).trans e0; have k1 := (hSw.cell (p := ⟨g, o + (j + 1) * 2 + 1, none⟩) hgl).trans e1; clear hSw; go_simp; try with_reducible rfl)
              refine rd1 4 (fun K hK => ?_)
              go_simp
              go_at_call 76
              refine (lab_below x0 x1 HR.out _).mono ?_
              rintro e w1 ⟨rfl, hb⟩
              refine hK.out _ _ (hHeld.trans (hb.mono hHeld.size)) (fun hHeld => ?_)
              clear hK K hb
              refine tk 5 hHeld ?_
              refine tk 6 hHeld ?_
              refine tk 7 hHeld ?_
              refine tk 8 hHeld ?_
              refine tk 9 hHeld ?_
              refine tk 10 hHeld ?_
              refine tk 11 hHeld ?_
              refine tk 12 hHeld ?_
              refine tk 13 hHeld ?_
              refine tk 14 hHeld ?_ (hy := fun w hSw => by (try dsimp only at hSw); have k0 := (hSw.cell (p := ⟨g, o + j * 2, none⟩) hgl).trans d0; have k1 := (hSw.cell (p := ⟨g, o + j * 2 + 1, none⟩) hgl).trans d1; clear hSw; go_simp; try with_reducible rfl)
              refine tk 15 hHeld ?_
              refine tk 16 hHeld ?_
              refine tk 17 hHeld ?_
              refine tk 18 hHeld ?_ (hy := fun w hSw => by (try dsimp only at hSw); have k0 := (hSw.cell (p := ⟨g, o + (j + 1) * 2, none⟩) hgl).trans e0; have k1 := (hSw.cell (p := ⟨g, o + (j + 1) * 2 + 1, none⟩) hgl).trans e1; clear hSw; go_simp; try with_reducible rfl)
              refine rd1 19 (fun K hK => ?_)
              go_simp
              go_at_call 131
              refine (below2_at y0 y1 x0 x1 HBB.out _).mono ?_
              rintro e w2 ⟨rfl, hb⟩
              refine hK.out _ _ (hHeld.trans (hb.mono hHeld.size)) (fun hHeld => ?_)
              clear hK K hb
              refine tk 20 hHeld ?_
              refine tk 21 hHeld ?_
              refine tk 22 hHeld ?_
              refine tk 23 hHeld ?_
              refine tk 24 hHeld ?_
              refine tk 25 hHeld ?_
              refine tk 26 hHeld ?_ (hy := fun w hSw => by (try dsimp only at hSw); have k0 := (hSw.cell (p := ⟨g, o + j * 2, none⟩) hgl).trans d0; have k1 := (hSw.cell (p := ⟨g, o + j * 2 + 1, none⟩) hgl).trans d1; clear hSw; go_simp; try with_reducible rfl)
              refine tk 27 hHeld ?_
              refine tk 28 hHeld ?_
              refine tk 29 hHeld ?_
              refine tk 30 hHeld ?_ (hy := fun w hSw => by (try dsimp only at hSw); have k0 := (hSw.cell (p := ⟨g, o + (j + 1) * 2, none⟩) hgl).trans e0; have k1 := (hSw.cell (p := ⟨g, o + (j + 1) * 2 + 1, none⟩) hgl).trans e1; clear hSw; go_simp; try with_reducible rfl)
              refine tk 31 hHeld ?_
              refine tk 32 hHeld ?_
              refine tk 33 hHeld ?_
              refine tk 34 hHeld ?_
              refine rd0 ?_
              have HF := Lib.hid hHeld
              clear hHeld
              have HB3 := Lib.hid (HB.out.trans (HF.out.mono hsz))
              clear HF
              go_wp2
              go_roundw
              case rel => exact ⟨j + 2, by omega, by go_num, HOK, HB3.out⟩
              case measure => simp [intOf]; omega
            | true =>
              cases c2 : (y1 == x1) with
              | false =>
                have HOK := Lib.hid (all_step HA.out (okC_next HX.out HY.out HR.out HBB.out (fun e => by have := congrArg Prod.snd e; simp at c2; exact c2 this)))
                go_wp2_with fail
                refine wp_region_held_drew (S := (fun V => Below (wr).heap.size (wr) V)) (by kernel_rfl) ((Below.refl _ _).drew) (fun hHeld => ?_)
                refine tk 0 hHeld ?_
                refine tk 1 hHeld ?_
                refine tk 2 hHeld ?_
                refine tk 3 hHeld ?_ (hy := fun w hSw => by (try dsimp only at hSw); have k0 := (hSw.cell (p := ⟨g, o + (j + 1) * 2, none⟩) hgl).trans e0; have k1 := (hSw.cell (p := ⟨g, o + (j + 1) * 2 + 1, none⟩) hgl).trans e1; clear hSw; go_simp; try with_reducible rfl)
                refine rd1 4 (fun K hK => ?_)
                go_simp
                go_at_call 76
                refine (lab_below x0 x1 HR.out _).mono ?_
                rintro e w1 ⟨rfl, hb⟩
                refine hK.out _ _ (hHeld.trans (hb.mono hHeld.size)) (fun hHeld => ?_)
                clear hK K hb
                refine tk 5 hHeld ?_
                refine tk 6 hHeld ?_
                refine tk 7 hHeld ?_
                refine tk 8 hHeld ?_
                refine tk 9 hHeld ?_
                refine tk 10 hHeld ?_
                refine tk 11 hHeld ?_
                refine tk 12 hHeld ?_
                refine tk 13 hHeld ?_
                refine tk 14 hHeld ?_ (hy := fun w hSw => by (try dsimp only at hSw); have k0 := (hSw.cell (p := ⟨g, o + j * 2, none⟩) hgl).trans d0; have k1 := (hSw.cell (p := ⟨g, o + j * 2 + 1, none⟩) hgl).trans d1; clear hSw; go_simp; try with_reducible rfl)
                refine tk 15 hHeld ?_
                refine tk 16 hHeld ?_
                refine tk 17 hHeld ?_
                refine tk 18 hHeld ?_ (hy := fun w hSw => by (try dsimp only at hSw); have k0 := (hSw.cell (p := ⟨g, o + (j + 1) * 2, none⟩) hgl).trans e0; have k1 := (hSw.cell (p := ⟨g, o + (j + 1) * 2 + 1, none⟩) hgl).trans e1; clear hSw; go_simp; try with_reducible rfl)
                refine rd1 19 (fun K hK => ?_)
                go_simp
                go_at_call 131
                refine (below2_at y0 y1 x0 x1 HBB.out _).mono ?_
                rintro e w2 ⟨rfl, hb⟩
                refine hK.out _ _ (hHeld.trans (hb.mono hHeld.size)) (fun hHeld => ?_)
                clear hK K hb
                refine tk 20 hHeld ?_
                refine tk 21 hHeld ?_
                refine tk 22 hHeld ?_
                refine tk 23 hHeld ?_
                refine tk 24 hHeld ?_
                refine tk 25 hHeld ?_
                refine tk 26 hHeld ?_ (hy := fun w hSw => by (try dsimp only at hSw); have k0 := (hSw.cell (p := ⟨g, o + j * 2, none⟩) hgl).trans d0; have k1 := (hSw.cell (p := ⟨g, o + j * 2 + 1, none⟩) hgl).trans d1; clear hSw; go_simp; try with_reducible rfl)
                refine tk 27 hHeld ?_
                refine tk 28 hHeld ?_
                refine tk 29 hHeld ?_
                refine tk 30 hHeld ?_ (hy := fun w hSw => by (try dsimp only at hSw); have k0 := (hSw.cell (p := ⟨g, o + (j + 1) * 2, none⟩) hgl).trans e0; have k1 := (hSw.cell (p := ⟨g, o + (j + 1) * 2 + 1, none⟩) hgl).trans e1; clear hSw; go_simp; try with_reducible rfl)
                refine tk 31 hHeld ?_
                refine tk 32 hHeld ?_
                refine tk 33 hHeld ?_
                refine tk 34 hHeld ?_
                refine rd0 ?_
                have HF := Lib.hid hHeld
                clear hHeld
                have HB3 := Lib.hid (HB.out.trans (HF.out.mono hsz))
                clear HF
                go_wp2
                go_roundw
                case rel => exact ⟨j + 2, by omega, by go_num, HOK, HB3.out⟩
                case measure => simp [intOf]; omega
              | true =>
                have HNo := Lib.hid (show ¬ ChainR L from fun h => ((h.2.2 (j + 1) hlt _ HX.out).2 (Nat.succ_pos _) (y0, y1) HY.out).2 (by rw [beq_iff_eq] at c1 c2; rw [c1, c2]))
                go_wp2_with fail
                refine wp_region_held_drew (S := (fun V => Below (wr).heap.size (wr) V)) (by kernel_rfl) ((Below.refl _ _).drew) (fun hHeld => ?_)
                refine tk 0 hHeld ?_
                refine tk 1 hHeld ?_
                refine tk 2 hHeld ?_
                refine tk 3 hHeld ?_ (hy := fun w hSw => by (try dsimp only at hSw); have k0 := (hSw.cell (p := ⟨g, o + (j + 1) * 2, none⟩) hgl).trans e0; have k1 := (hSw.cell (p := ⟨g, o + (j + 1) * 2 + 1, none⟩) hgl).trans e1; clear hSw; go_simp; try with_reducible rfl)
                refine rd1 4 (fun K hK => ?_)
                go_simp
                go_at_call 76
                refine (lab_below x0 x1 HR.out _).mono ?_
                rintro e w1 ⟨rfl, hb⟩
                refine hK.out _ _ (hHeld.trans (hb.mono hHeld.size)) (fun hHeld => ?_)
                clear hK K hb
                refine tk 5 hHeld ?_
                refine tk 6 hHeld ?_
                refine tk 7 hHeld ?_
                refine tk 8 hHeld ?_
                refine tk 9 hHeld ?_
                refine tk 10 hHeld ?_
                refine tk 11 hHeld ?_
                refine tk 12 hHeld ?_
                refine tk 13 hHeld ?_
                refine tk 14 hHeld ?_ (hy := fun w hSw => by (try dsimp only at hSw); have k0 := (hSw.cell (p := ⟨g, o + j * 2, none⟩) hgl).trans d0; have k1 := (hSw.cell (p := ⟨g, o + j * 2 + 1, none⟩) hgl).trans d1; clear hSw; go_simp; try with_reducible rfl)
                refine tk 15 hHeld ?_
                refine tk 16 hHeld ?_
                refine tk 17 hHeld ?_
                refine tk 18 hHeld ?_ (hy := fun w hSw => by (try dsimp only at hSw); have k0 := (hSw.cell (p := ⟨g, o + (j + 1) * 2, none⟩) hgl).trans e0; have k1 := (hSw.cell (p := ⟨g, o + (j + 1) * 2 + 1, none⟩) hgl).trans e1; clear hSw; go_simp; try with_reducible rfl)
                refine rd1 19 (fun K hK => ?_)
                go_simp
                go_at_call 131
                refine (below2_at y0 y1 x0 x1 HBB.out _).mono ?_
                rintro e w2 ⟨rfl, hb⟩
                refine hK.out _ _ (hHeld.trans (hb.mono hHeld.size)) (fun hHeld => ?_)
                clear hK K hb
                refine tk 20 hHeld ?_
                refine tk 21 hHeld ?_
                refine tk 22 hHeld ?_
                refine tk 23 hHeld ?_
                refine tk 24 hHeld ?_
                refine tk 25 hHeld ?_
                refine tk 26 hHeld ?_ (hy := fun w hSw => by (try dsimp only at hSw); have k0 := (hSw.cell (p := ⟨g, o + j * 2, none⟩) hgl).trans d0; have k1 := (hSw.cell (p := ⟨g, o + j * 2 + 1, none⟩) hgl).trans d1; clear hSw; go_simp; try with_reducible rfl)
                refine tk 27 hHeld ?_
                refine tk 28 hHeld ?_
                refine tk 29 hHeld ?_
                refine tk 30 hHeld ?_ (hy := fun w hSw => by (try dsimp only at hSw); have k0 := (hSw.cell (p := ⟨g, o + (j + 1) * 2, none⟩) hgl).trans e0; have k1 := (hSw.cell (p := ⟨g, o + (j + 1) * 2 + 1, none⟩) hgl).trans e1; clear hSw; go_simp; try with_reducible rfl)
                refine tk 31 hHeld ?_
                refine tk 32 hHeld ?_
                refine tk 33 hHeld ?_
                refine tk 34 hHeld ?_
                refine rd0 ?_
                have HF := Lib.hid hHeld
                clear hHeld
                have HB3 := Lib.hid (HB.out.trans (HF.out.mono hsz))
                clear HF
                go_wp2
                go_ret
                exact resB_no HNo.out HB3.out
    · have HY := Lib.hid (show ChainR L from ⟨n1, n4, fun i hi => HA.out i (by omega)⟩)
      clear hB
      go_wp2
      go_ret
      exact resB_yes HY.out HB.out
set_option maxRecDepth 100000 in
set_option maxHeartbeats 3200000 in
theorem cleared_spec {L : List D_Label} {a : Option Addr} {cap : Nat} {l s : Int} {W : World} (h : RdSl R_Label W W.heap.size L a cap) :
    Calls Tryz.prog 29 #[.slice a L.length cap, .agg #[.int .i64 l, .int .i64 s]] W (ResB ((l, s) ∈ L) W) := by
  have hn : L.length ≤ 9223372036854775807 := by have h1 := h.1; have h2 := h.2.1; unfold maxLen at h2; omega
  have H := Lib.hid h
  clear h
  have HB0 := Lib.hid (show Below W.heap.size W (W.alloc (.cells #[.int .i64 l, .int .i64 s] 67)) from (Below.refl _ _).alloc (Nat.le_refl _) _)
  have HP0 := Lib.hid (Blk.new W 67 #[.int .i64 l, .int .i64 s])
  go_enter Tryz.func29, Tryz.ntmps29
  go_wp2
  go_loopw [5] (fun i wr => ∃ k : Nat, k ≤ L.length ∧ i = .int .i64 k ∧ Hid ((l, s) ∉ L.take k) ∧ Below W.heap.size W wr ∧ Hid (Blk wr W.heap.size 67 #[.int .i64 l, .int .i64 s])) (fun i _ => L.length - (intOf i).toNat)
  case atStart => exact ⟨0, Nat.zero_le _, rfl, Lib.hid (by simp), HB0.out, HP0⟩
  case round =>
    obtain ⟨k, hk, rfl, HA, hB, HP⟩ := hrel
    have HB := Lib.hid hB
    have hsz := hB.size
    by_cases hlt : k < L.length
    · obtain ⟨⟨x0, x1⟩, hx⟩ := el_some hlt
      have HX := Lib.hid hx
      obtain ⟨g, o, us, rfl, hg, hu, hr⟩ := (H.out.below R_Label_ok hB).at_ hx
      obtain rfl := rd_Label hr
      have e0 : wr.cell? ⟨g, o + k * 2, none⟩ = some (.int .i64 x0) := by simpa [size_Lab, Nat.add_assoc] using hu 0 _ rfl
      have e1 : wr.cell? ⟨g, o + k * 2 + 1, none⟩ = some (.int .i64 x1) := by simpa [size_Lab, Nat.add_assoc] using hu 1 _ rfl
      have hgl : g < wr.heap.size := Nat.lt_of_lt_of_le hg hsz
      have hi0 : (0 : Int) ≤ (k : Int) := Int.natCast_nonneg _
      have hi1 : (k : Int) < (L.length : Int) := by omega
      have hq0 := HP.out.at_ 0 rfl
      have hq1 := HP.out.at_ 1 rfl
      have hpl := HP.out.lt
      clear hB hx hu hr
      cases c1 : (x0 == l) with
      | false =>
        have HC := Lib.hid (show (l, s) ∉ L.take (k + 1) from by rw [List.take_add_one, HX.out]; simp at c1 ⊢; exact ⟨HA.out, fun e => absurd e.symm c1⟩)
        go_wp2_with fail
        refine wp_region_held_drew (S := (fun V => Below (wr).heap.size (wr) V)) (by kernel_rfl) ((Below.refl _ _).drew) (fun hHeld => ?_)
        refine tk 0 hHeld ?_
        refine tk 1 hHeld ?_
        refine tk 2 hHeld ?_
        refine tk 3 hHeld ?_ (hy := fun w hSw => by (try dsimp only at hSw); have k0 := (hSw.cell (p := ⟨g, o + k * 2, none⟩) hgl).trans e0; have k1 := (hSw.cell (p := ⟨g, o + k * 2 + 1, none⟩) hgl).trans e1; clear hSw; go_simp; try with_reducible rfl)
        refine tk 4 hHeld ?_ (hy := fun w hSw => by (try dsimp only at hSw); have k0 := (hSw.cell (p := ⟨W.heap.size, 0, none⟩) hpl).trans hq0; have k1 := (hSw.cell (p := ⟨W.heap.size, 1, none⟩) hpl).trans hq1; clear hSw; go_simp; try with_reducible rfl)
        refine tk 5 hHeld ?_
        refine rd0 ?_
        have HF := Lib.hid hHeld
        clear hHeld
        have HB3 := Lib.hid (HB.out.trans (HF.out.mono hsz))
        have HP3 := Lib.hid (HP.out.call HF.out)
        clear HF
        go_wp2
        go_roundw
        case rel => exact ⟨k + 1, by omega, by go_num, HC, HB3.out, HP3⟩
        case measure => simp [intOf]; omega
      | true =>
        cases c2 : (x1 == s) with
        | false =>
          have HC := Lib.hid (show (l, s) ∉ L.take (k + 1) from by rw [List.take_add_one, HX.out]; simp at c2 ⊢; exact ⟨HA.out, fun _ e => absurd e.symm c2⟩)
          go_wp2_with fail
          refine wp_region_held_drew (S := (fun V => Below (wr).heap.size (wr) V)) (by kernel_rfl) ((Below.refl _ _).drew) (fun hHeld => ?_)
          refine tk 0 hHeld ?_
          refine tk 1 hHeld ?_
          refine tk 2 hHeld ?_
          refine tk 3 hHeld ?_ (hy := fun w hSw => by (try dsimp only at hSw); have k0 := (hSw.cell (p := ⟨g, o + k * 2, none⟩) hgl).trans e0; have k1 := (hSw.cell (p := ⟨g, o + k * 2 + 1, none⟩) hgl).trans e1; clear hSw; go_simp; try with_reducible rfl)
          refine tk 4 hHeld ?_ (hy := fun w hSw => by (try dsimp only at hSw); have k0 := (hSw.cell (p := ⟨W.heap.size, 0, none⟩) hpl).trans hq0; have k1 := (hSw.cell (p := ⟨W.heap.size, 1, none⟩) hpl).trans hq1; clear hSw; go_simp; try with_reducible rfl)
          refine tk 5 hHeld ?_
          refine rd0 ?_
          have HF := Lib.hid hHeld
          clear hHeld
          have HB3 := Lib.hid (HB.out.trans (HF.out.mono hsz))
          have HP3 := Lib.hid (HP.out.call HF.out)
          clear HF
          go_wp2
          go_roundw
          case rel => exact ⟨k + 1, by omega, by go_num, HC, HB3.out, HP3⟩
          case measure => simp [intOf]; omega
        | true =>
          have HY := Lib.hid (show (l, s) ∈ L from by rw [beq_iff_eq] at c1 c2; subst c1 c2; exact List.mem_of_getElem? HX.out)
          go_wp2_with fail
          refine wp_region_held_drew (S := (fun V => Below (wr).heap.size (wr) V)) (by kernel_rfl) ((Below.refl _ _).drew) (fun hHeld => ?_)
          refine tk 0 hHeld ?_
          refine tk 1 hHeld ?_
          refine tk 2 hHeld ?_
          refine tk 3 hHeld ?_ (hy := fun w hSw => by (try dsimp only at hSw); have k0 := (hSw.cell (p := ⟨g, o + k * 2, none⟩) hgl).trans e0; have k1 := (hSw.cell (p := ⟨g, o + k * 2 + 1, none⟩) hgl).trans e1; clear hSw; go_simp; try with_reducible rfl)
          refine tk 4 hHeld ?_ (hy := fun w hSw => by (try dsimp only at hSw); have k0 := (hSw.cell (p := ⟨W.heap.size, 0, none⟩) hpl).trans hq0; have k1 := (hSw.cell (p := ⟨W.heap.size, 1, none⟩) hpl).trans hq1; clear hSw; go_simp; try with_reducible rfl)
          refine tk 5 hHeld ?_
          refine rd0 ?_
          have HF := Lib.hid hHeld
          clear hHeld
          have HB3 := Lib.hid (HB.out.trans (HF.out.mono hsz))
          clear HF
          go_wp2
          go_ret
          exact resB_yes HY.out HB3.out
    · have HN := Lib.hid (show (l, s) ∉ L from by have := HA.out; rw [List.take_of_length_le (by omega)] at this; exact this)
      clear hB
      go_wp2
      go_ret
      exact resB_no HN.out HB.out
theorem size_SLab : (Sl R_Label).size = 1 := rfl
def ClearR (C : List (List D_Label)) : Prop := 1 ≤ C.length ∧ C.length ≤ 6 ∧ ∀ (i : Nat) (x : List D_Label), C[i]? = some x → ChainR x
set_option maxRecDepth 100000 in
set_option maxHeartbeats 3200000 in
theorem clear_spec {C : List (List D_Label)} {a : Option Addr} {cap : Nat} {W : World} (h : RdSl (Sl R_Label) W W.heap.size C a cap) :
    Calls Tryz.prog 68 #[.slice a C.length cap] W (ResB (ClearR C) W) := by
  have hn : C.length ≤ 9223372036854775807 := by have h1 := h.1; have h2 := h.2.1; unfold maxLen at h2; omega
  have H := Lib.hid h
  clear h
  go_enter Tryz.func68, Tryz.ntmps68
  go_wp2
  go_loopw [3] (fun i wr => ∃ k : Nat, k ≤ C.length ∧ k ≤ 7 ∧ i = .int .i64 k ∧ Hid (∀ (j : Nat) (x : List D_Label), j < k → C[j]? = some x → ChainR x) ∧ Below W.heap.size W wr) (fun i _ => C.length - (intOf i).toNat)
  case atStart => exact ⟨0, Nat.zero_le _, by omega, rfl, Lib.hid fun j x h => absurd h (Nat.not_lt_zero _), Below.refl _ _⟩
  case round =>
    obtain ⟨k, hk, hk7, rfl, HA, hB⟩ := hrel
    have HB := Lib.hid hB
    have hsz := hB.size
    by_cases hlt : k < C.length
    · have hd1 : decide ((k : Int) < (C.length : Int)) = true := decide_eq_true (by omega)
      by_cases h6 : k ≤ 6
      · have hd2 : decide ((k : Int) ≤ 6) = true := decide_eq_true (by omega)
        obtain ⟨x, hx⟩ := el_some hlt
        have HX := Lib.hid hx
        obtain ⟨g, o, us, rfl, hg, hu, hr⟩ := (H.out.below (Sl_ok R_Label_ok) hB).at_ hx
        obtain ⟨a1, c1, rfl, hx1⟩ := hr
        have e0 : wr.cell? ⟨g, o + k, none⟩ = some (.slice a1 x.length c1) := by simpa [size_SLab] using hu 0 _ rfl
        have hi0 : (0 : Int) ≤ (k : Int) := Int.natCast_nonneg _
        have hi1 : (k : Int) < (C.length : Int) := by omega
        have HR := Lib.hid (hx1.more R_Label_ok hsz)
        clear hB hx hu hx1
        go_wp2_with fail
        refine (chain_rd HR.out).mono ?_
        intro e w2 h
        obtain ⟨q, rfl, hq, hb⟩ := resB_elim h
        have HB2 := Lib.hid (HB.out.trans (hb.mono hsz))
        clear h hb
        cases q with
        | false =>
          have HN := Lib.hid (show ¬ ClearR C from fun h => by have := hq.2 (h.2.2 k _ HX.out); cases this)
          clear hq
          go_wp2
          go_ret
          exact resB_no HN.out HB2.out
        | true =>
          have HS := Lib.hid (show ∀ (j : Nat) (x : List D_Label), j < k + 1 → C[j]? = some x → ChainR x from fun j y hj hy => by
            by_cases e : j = k
            · subst e
              have := HX.out
              rw [hy] at this
              obtain rfl := Option.some.inj this
              exact hq.1 rfl
            · exact HA.out j y (by omega) hy)
          clear hq
          go_wp2
          go_roundw
          case rel => exact ⟨k + 1, by omega, by omega, by go_num, HS, HB2.out⟩
          case measure => simp [intOf]; omega
      · have hd2 : decide ((k : Int) ≤ 6) = false := decide_eq_false (by omega)
        have hd3 : decide ((1 : Int) ≤ (C.length : Int)) = true := decide_eq_true (by omega)
        have hd4 : decide ((C.length : Int) ≤ 6) = false := decide_eq_false (by omega)
        have HN := Lib.hid (show ¬ ClearR C from fun h => by have := h.2.1; omega)
        clear hB
        go_wp2
        go_ret
        exact resB_no HN.out HB.out
    · have hd1 : decide ((k : Int) < (C.length : Int)) = false := decide_eq_false (by omega)
      by_cases n1 : 1 ≤ C.length
      · have hd3 : decide ((1 : Int) ≤ (C.length : Int)) = true := decide_eq_true (by omega)
        by_cases n6 : C.length ≤ 6
        · have hd4 : decide ((C.length : Int) ≤ 6) = true := decide_eq_true (by omega)
          have HY := Lib.hid (show ClearR C from ⟨n1, n6, fun i x hx => HA.out i x (by have := el_lt hx; omega) hx⟩)
          clear hB
          go_wp2
          go_ret
          exact resB_yes HY.out HB.out
        · have hd4 : decide ((C.length : Int) ≤ 6) = false := decide_eq_false (by omega)
          have HN := Lib.hid (show ¬ ClearR C from fun h => n6 h.2.1)
          clear hB
          go_wp2
          go_ret
          exact resB_no HN.out HB.out
      · have hd3 : decide ((1 : Int) ≤ (C.length : Int)) = false := decide_eq_false (by omega)
        have HN := Lib.hid (show ¬ ClearR C from fun h => n1 h.1)
        clear hB
        go_wp2
        go_ret
        exact resB_no HN.out HB.out
end Go.Proofs.YtelhmacfljffhaaGreat.RepC
end
section
namespace Go.Proofs.YtelhmacfljffhaaGreat.RepC
open Go.RowKit RowC ValC
set_option linter.unusedVariables false
set_option linter.unusedSimpArgs false
set_option maxRecDepth 100000
theorem below_own {B : Nat} {w w' : World} {v : Value} (h : w.grownBy w' v.ownBlock) (hv : ∀ k, v.ownBlock = some k → B ≤ k) (hB : B ≤ w.heap.size) : Below B w w' :=
  ⟨h.os, h.tape, h.output, h.size, fun k hk => h.block k (Nat.lt_of_lt_of_le hk hB) (fun e => by have := hv k e.symm; omega)⟩
section
variable {α : Type} {E : Rp α} {f : α → List Value} {w w' : World} {lo : Nat} {T : TypeId} {v : Value} {L : List α}
theorem append_none {P : Program} {w : World} {base : Nat} {t ty e : TypeId} {i : TypeInfo} {size : Nat} (ht : P.underlying t = some (.slice e)) (hi : P.info? e = some i) {v : Value} {n : Nat} {xs : List Value} (hown : w.ownsRow base e size v n xs) (c : Nat) :
    (Builtin.append_ #[t, t] ty #[v, .slice none 0 c]).run P w = .ok v w := by
  rcases hown.2 with ⟨rfl, rfl⟩ | ⟨g, cap, cur, rfl, _, _, hnc, _⟩
  · simp [Builtin.append_, run_underlying ht, sizeOf, typeInfo, hi, Builtin.lenOf, Builtin.firstCells]
  · simp [Builtin.append_, run_underlying ht, sizeOf, typeInfo, hi, Builtin.lenOf, Builtin.firstCells, hnc, storeCells]
structure FRow {α : Type} (E : Rp α) (f : α → List Value) (w : World) (lo : Nat) (T : TypeId) (v : Value) (L : List α) : Prop where
  own : w.ownsRow lo T E.size v L.length (L.flatMap f)
  blk : ∀ k, v.ownBlock = some k → lo ≤ k ∧ k < w.heap.size
theorem FRow.none_ (E : Rp α) (f : α → List Value) (w : World) (lo : Nat) (T : TypeId) : FRow E f w lo T (.slice none 0 0) [] := ⟨⟨by simp, .inl ⟨rfl, rfl⟩⟩, fun k hk => by cases hk⟩
theorem FRow.made (E : Rp α) (f : α → List Value) (w : World) (T : TypeId) : FRow E f (w.alloc (.cells #[] T)) w.heap.size T (.slice (some ⟨w.heap.size, 0, none⟩) 0 0) [] :=
  ⟨(App.made E w T).own, fun k hk => (by cases hk; exact ⟨Nat.le_refl _, by simp⟩)⟩
theorem FRow.isSlice (h : FRow E f w lo T v L) : ∃ a cap, v = .slice a L.length cap := by
  obtain ⟨_, h2⟩ := h.own
  rcases h2 with ⟨rfl, h0⟩ | ⟨g, cap, cur, rfl, _⟩
  · exact ⟨none, 0, by rw [h0]⟩
  · exact ⟨_, _, rfl⟩
theorem FRow.mv (h : FRow E f w lo T v L) (hs : w.heap.size ≤ w'.heap.size) (hb : ∀ k, v.ownBlock = some k → w'.heap[k]? = w.heap[k]?) : FRow E f w' lo T v L := by
  refine ⟨?_, fun k hk => ⟨(h.blk k hk).1, Nat.lt_of_lt_of_le (h.blk k hk).2 hs⟩⟩
  obtain ⟨h1, h2⟩ := h.own
  refine ⟨h1, ?_⟩
  rcases h2 with h2 | ⟨g, cap, cur, rfl, hlo, hg, h3⟩
  · exact .inl h2
  · exact .inr ⟨g, cap, cur, rfl, hlo, (hb g rfl).trans hg, h3⟩
theorem FRow.call (h : FRow E f w lo T v L) (hb : Below w.heap.size w w') : FRow E f w' lo T v L := h.mv hb.size fun k hk => hb.block k (h.blk k hk).2
theorem flatMap_len (hE : Ok E) (hF : Flat E f) (w : World) : ∀ M : List α, (M.flatMap f).length = M.length * E.size
  | [] => by simp
  | y :: ys => by
    have hy : (f y).length = E.size := hE.ow_len (hF.ow w (fun _ => False) y)
    simp only [List.flatMap_cons, List.length_append, List.length_cons, flatMap_len hE hF w ys, hy, Nat.add_mul, Nat.one_mul]
    omega
theorem flatMap_at (hE : Ok E) (hF : Flat E f) (w : World) : ∀ (M : List α) (q : Nat) (x : α), M[q]? = some x → ∀ j d, (f x)[j]? = some d → (M.flatMap f)[q * E.size + j]? = some d
  | [], q, x, hq, j, d, hj => by simp at hq
  | y :: ys, q, x, hq, j, d, hj => by
    have hy : (f y).length = E.size := hE.ow_len (hF.ow w (fun _ => False) y)
    simp only [List.flatMap_cons]
    cases q with
    | zero =>
      simp at hq
      subst hq
      rw [Nat.zero_mul, Nat.zero_add, List.getElem?_append_left (List.getElem?_eq_some_iff.1 hj).1]
      exact hj
    | succ q =>
      rw [List.getElem?_append_right (by rw [hy, Nat.add_mul, Nat.one_mul]; omega), hy, Nat.add_mul, Nat.one_mul, show q * E.size + E.size + j - E.size = q * E.size + j by omega]
      exact flatMap_at hE hF w ys q x (by simpa using hq) j d hj
theorem flatMap_cells (hE : Ok E) (hF : Flat E f) (w : World) (g : Nat) : ∀ (M : List α) (b : Nat), (∀ i x, M[i]? = some x → CellsAt w g (b + i * E.size) (f x)) → CellsAt w g b (M.flatMap f)
  | [], b, _ => CellsAt.nil
  | y :: ys, b, hc => by
    have hy : (f y).length = E.size := hE.ow_len (hF.ow w (fun _ => False) y)
    simp only [List.flatMap_cons]
    refine CellsAt.app.2 ⟨by simpa using hc 0 y rfl, ?_⟩
    rw [hy]
    refine flatMap_cells hE hF w g ys _ fun i x hx => ?_
    have := hc (i + 1) x (by simpa using hx)
    rw [Nat.add_mul, Nat.one_mul] at this
    rw [show b + E.size + i * E.size = b + (i * E.size + E.size) by omega]
    exact this
theorem FRow.more (hE : Ok E) (hF : Flat E f) {P : Program} (h : FRow E f w lo T v L) {t ty : TypeId} {i : TypeInfo} {z : Value} {bytes : Nat} (ht : P.underlying t = some (.slice T)) (hi : P.info? T = some i) (hz : i.zero = some z) (hsize : i.size = E.size) (hby : i.bytes = bytes) (hzs : z.cells.size = E.size) (hpos : 0 < E.size)
    {M : List α} {a : Option Addr} {cap : Nat} (hM : RdSl E w w.heap.size M a cap) (hlo : lo ≤ w.heap.size) (hL : L.length + M.length ≤ maxLen) (hLb : (L.length + M.length) * bytes ≤ 140737488355328) :
    ∃ a' c' w', (Builtin.append_ #[t, t] ty #[v, .slice a M.length cap]).run P w = .ok (.slice a' (L ++ M).length c') w' ∧ FRow E f w' lo T (.slice a' (L ++ M).length c') (L ++ M) ∧ Below lo w w' := by
  cases a with
  | none =>
    have h0 : M = [] := by
      cases M with
      | nil => rfl
      | cons y ys => obtain ⟨g, o, ha, _⟩ := hM.2.2 (by simp); cases ha
    subst h0
    obtain ⟨a', c', rfl⟩ := h.isSlice
    simp only [List.append_nil]
    exact ⟨a', c', w, append_none ht hi h.own cap, h, Below.refl _ _⟩
  | some x =>
    obtain ⟨news, hlen, hcells, hone, hnews⟩ : ∃ news : List Value, news.length = M.length * E.size ∧ (∀ j u, news[j]? = some u → w.cell? (x.add j) = some u) ∧ (∀ u ∈ news, u.oneCell' = true) ∧ news = M.flatMap f := by
      refine ⟨M.flatMap f, flatMap_len hE hF w M, fun j u hj => ?_, fun u hu => ?_, rfl⟩
      · cases M with
        | nil => simp at hj
        | cons y ys =>
          obtain ⟨g, o, ha, hg, hel⟩ := hM.2.2 (by simp)
          cases ha
          have hall := flatMap_cells hE hF w g (y :: ys) o fun i x hx => by
            obtain ⟨us, hu, hr⟩ := hel i x hx
            rw [← hF.rd hr]
            exact hu
          have hadd : (⟨g, o, none⟩ : Addr).add j = ⟨g, o + j, none⟩ := by unfold Addr.add; split <;> simp_all
          rw [hadd]
          exact hall j u hj
      · obtain ⟨y, hy, hu⟩ := List.mem_flatMap.1 hu
        exact hE.one (hE.ow_rd (B := 0) (hF.ow w (fun _ => False) y) (fun k h => h.elim)) u hu
    obtain ⟨v', w', hrun, hown, hgr, _, hat⟩ := run_append_own_at (P := P) w lo t ty T i z E.size bytes ht hi hz hsize hby hzs hpos v L.length _ h.own x M.length cap news hlen hcells hone hL hLb hlo
    rw [hnews, ← List.flatMap_append, ← List.length_append] at hown
    have hb : Below lo w w' := below_own hgr (fun k hk => (h.blk k hk).1) hlo
    have hF2 : FRow E f w' lo T v' (L ++ M) := ⟨hown, fun k hk => by
      rcases hat with e | e
      · rw [e] at hk; exact ⟨(h.blk k hk).1, Nat.lt_of_lt_of_le (h.blk k hk).2 hb.size⟩
      · rw [e] at hk
        cases hk
        rcases hown.2 with ⟨hn, _⟩ | ⟨g, cap', cur, hv, hlog, hgg, _⟩
        · rw [hn] at e; cases e
        · rw [hv] at e
          cases e
          exact ⟨hlog, (Array.getElem?_eq_some_iff.1 hgg).1⟩⟩
    obtain ⟨a', c', rfl⟩ := hF2.isSlice
    exact ⟨a', c', w', hrun, hF2, hb⟩
theorem FRow.sl (hE : Ok E) (hF : Flat E f) (h : FRow E f w lo T v L) : ∃ a c, v = .slice a L.length c ∧ OwSl E w (fun k => v.ownBlock = some k) L a c := by
  obtain ⟨hx, h2⟩ := h.own
  rcases h2 with ⟨rfl, h0⟩ | ⟨g, cap, cur, rfl, hlo, hg, hnc, hm, hc, htk⟩
  · have : L = [] := List.eq_nil_of_length_eq_zero h0
    subst this
    exact ⟨none, 0, rfl, Nat.le_refl _, Nat.zero_le _, fun h => absurd h (Nat.lt_irrefl _)⟩
  · refine ⟨_, cap, rfl, hnc, hm, fun _ => ⟨g, fun _ _ => False, rfl, rfl, fun j => by simp [World.frozen?, hg], fun i k h => h.elim, fun i j k _ h => h.elim, fun q x hq => ⟨f x, fun j d hj => ?_, hF.ow _ _ _⟩⟩⟩
    have h4 := flatMap_at hE hF w L q x hq j d hj
    rw [← htk] at h4
    have h5 : cur.toList[q * E.size + j]? = some d := by
      rw [List.getElem?_take] at h4
      split at h4
      · exact h4
      · cases h4
    exact (cell_of_row w g _ cur _ _ hg).trans (by simpa using h5)
end
theorem FRow.news {α : Type} {E : Rp α} {f : α → List Value} (hE : Ok E) (hF : Flat E f) {W w : World} {lo : Nat} {T : TypeId} {v : Value} {L : List α} (h : FRow E f w lo T v L) (hlo : W.heap.size ≤ lo) (hb : Below W.heap.size W w) : NewS E L W (.returned v) w := by
  obtain ⟨a, c, rfl, ho⟩ := h.sl hE hF
  exact ⟨a, c, rfl, ho.more fun k hk => ⟨Nat.le_trans hlo (h.blk k hk).1, (h.blk k hk).2⟩, hb⟩
end Go.Proofs.YtelhmacfljffhaaGreat.RepC
end
section
namespace Go.Proofs.YtelhmacfljffhaaGreat.RepC
open Go.RowKit RowC ValC
set_option linter.unusedVariables false
set_option linter.unusedSimpArgs false
set_option maxRecDepth 100000
section
variable {α : Type} {E : Rp α} {f : α → List Value} {w w' : World} {lo : Nat} {T : TypeId} {v : Value} {L : List α}
theorem infoLb : ∃ i, Tryz.prog.info? 67 = some i ∧ i.zero = some (.agg #[.int .i64 0, .int .i64 0]) ∧ i.size = 2 ∧ i.bytes = 16 := by
  have h : (Tryz.prog.info? 67).map (fun i => (i.zero, i.size, i.bytes)) = some (some (.agg #[.int .i64 0, .int .i64 0]), 2, 16) := by kernel_rfl
  cases hx : Tryz.prog.info? 67 with
  | none => rw [hx] at h; simp at h
  | some i => rw [hx] at h; simp at h; exact ⟨i, rfl, h.1, h.2.1, h.2.2⟩
theorem infoIn : ∃ i, Tryz.prog.info? 2 = some i ∧ i.zero = some (.int .i64 0) ∧ i.size = 1 ∧ i.bytes = 8 := by
  have h : (Tryz.prog.info? 2).map (fun i => (i.zero, i.size, i.bytes)) = some (some (.int .i64 0), 1, 8) := by kernel_rfl
  cases hx : Tryz.prog.info? 2 with
  | none => rw [hx] at h; simp at h
  | some i => rw [hx] at h; simp at h; exact ⟨i, rfl, h.1, h.2.1, h.2.2⟩
theorem flat_I : Flat I (fun x => [.int .i64 x]) := ⟨fun {W B x us} h => h, fun W S x => rfl⟩
abbrev BRow (w : World) (lo : Nat) (v : Value) (L : List D_Label) : Prop := FRow R_Label (fun x => [.int .i64 x.1, .int .i64 x.2]) w lo 67 v L
theorem BRow.more {w : World} {lo : Nat} {v : Value} {L M : List D_Label} {a : Option Addr} {cap : Nat} (h : BRow w lo v L) (hM : RdSl R_Label w w.heap.size M a cap) (hlo : lo ≤ w.heap.size) (hL : L.length + M.length ≤ 8796093022208) :
    ∃ a' c' w', (Builtin.append_ #[72, 72] 72 #[v, .slice a M.length cap]).run Tryz.prog w = .ok (.slice a' (L ++ M).length c') w' ∧ BRow w' lo (.slice a' (L ++ M).length c') (L ++ M) ∧ Below lo w w' := by
  obtain ⟨i, hi', hz, hs, hby⟩ := infoLb
  exact FRow.more R_Label_ok flat_Label h Tryz.underlying72 hi' hz hs hby rfl (by decide) hM hlo (by unfold maxLen; omega) (by omega)
theorem rd_oneL {w : World} {g : Nat} (x0 x1 : Int) (h : Blk w g 67 #[.int .i64 x0, .int .i64 x1]) : RdSl R_Label w w.heap.size [(x0, x1)] (some ⟨g, 0, none⟩) 1 := by
  refine ⟨Nat.le_refl _, by unfold maxLen; omega, fun _ => ⟨g, 0, rfl, h.lt, fun i x hx => ?_⟩⟩
  cases i with
  | zero =>
    simp at hx
    subst hx
    refine ⟨[.int .i64 x0, .int .i64 x1], fun j c hj => ?_, mkrd_Label⟩
    simpa using h.at_ j (by simpa using hj)
  | succ i => simp at hx
theorem rd_oneI {w : World} {g : Nat} (x : Int) (h : Blk w g 2 #[.int .i64 x]) : RdSl I w w.heap.size [x] (some ⟨g, 0, none⟩) 1 := by
  refine ⟨Nat.le_refl _, by unfold maxLen; omega, fun _ => ⟨g, 0, rfl, h.lt, fun i x hx => ?_⟩⟩
  cases i with
  | zero =>
    simp at hx
    subst hx
    refine ⟨[.int .i64 x], fun j c hj => ?_, rfl⟩
    simpa using h.at_ j (by simpa using hj)
  | succ i => simp at hx
abbrev IRow (w : World) (lo : Nat) (v : Value) (L : List Int) : Prop := FRow I (fun x => [.int .i64 x]) w lo 2 v L
theorem IRow.more {w : World} {lo : Nat} {v : Value} {L M : List Int} {a : Option Addr} {cap : Nat} (h : IRow w lo v L) (hM : RdSl I w w.heap.size M a cap) (hlo : lo ≤ w.heap.size) (hL : L.length + M.length ≤ 17592186044416) :
    ∃ a' c' w', (Builtin.append_ #[68, 68] 68 #[v, .slice a M.length cap]).run Tryz.prog w = .ok (.slice a' (L ++ M).length c') w' ∧ IRow w' lo (.slice a' (L ++ M).length c') (L ++ M) ∧ Below lo w w' := by
  obtain ⟨i, hi', hz, hs, hby⟩ := infoIn
  exact FRow.more I_ok flat_I h Tryz.underlying68 hi' hz hs hby rfl (by decide) hM hlo (by unfold maxLen; omega) (by omega)
theorem BRow.grown {w : World} {n : Nat} (h0 : 0 < n) (hn : n ≤ 1099511627776) : ∃ c w', (Builtin.append_ #[72, 3] 72 #[.slice none 0 0, .int .i64 n]).run Tryz.prog w = .ok (.slice (some ⟨w.heap.size, 0, none⟩) n c) w' ∧ BRow w' w.heap.size (.slice (some ⟨w.heap.size, 0, none⟩) 0 c) [] ∧ Below w.heap.size w w' ∧ n ≤ c := by
  obtain ⟨i, hi', hz, hs, hby⟩ := infoLb
  have hge := grownCap_ge w n 0 67
  refine ⟨_, _, Lib.run_append_nil_zeros w 72 3 72 67 i _ .i64 .i64 Tryz.underlying72 Tryz.underlying3 hi' hz n h0 (by rw [hs]; decide) (by omega) (by rw [hby]; omega), ⟨⟨by simp, .inr ⟨w.heap.size, _, _, rfl, Nat.le_refl _, heap_alloc_new w.drew _, Nat.zero_le _, grownCap_le_maxLen _ _ _ _ (by unfold maxLen; omega), ?_, by simp⟩⟩, fun k hk => (by cases hk; exact ⟨Nat.le_refl _, by simp⟩)⟩, ((Below.refl _ _).drew).alloc (by simp) _, hge⟩
  rw [Array.size_append, size_zeroCells, size_zeroCells]
  show _ * 2 + _ * 2 = _
  rw [← Nat.add_mul]
  congr 1
  omega
end
end Go.Proofs.YtelhmacfljffhaaGreat.RepC
end
section
namespace Go.Proofs.YtelhmacfljffhaaGreat.CfC
open Go.Lib Go.Sort
set_option linter.unusedVariables false
set_option linter.unusedSimpArgs false
abbrev Lb := Int × Int
def ltB (a b : Lb) : Prop := a.1 < b.1 ∨ a.1 = b.1 ∧ a.2 < b.2
def labAt (k : Nat) : Lb := (((k / 8 : Nat) : Int), ((k % 8 : Nat) : Int))
def labsTo (C : List (List Lb)) (n : Nat) : List Lb := ((List.range n).map labAt).filter (fun a => decide (∃ x ∈ C, a ∈ x))
def labsOf (C : List (List Lb)) : List Lb := labsTo C 32
theorem labsTo_yes {C : List (List Lb)} {k : Nat} (h : ∃ x ∈ C, labAt k ∈ x) : labsTo C (k + 1) = labsTo C k ++ [labAt k] := by
  unfold labsTo
  rw [List.range_succ, List.map_append, List.filter_append]
  simp only [List.map_cons, List.map_nil, List.filter_cons, decide_eq_true h, List.filter_nil, if_true]
theorem labsTo_no {C : List (List Lb)} {k : Nat} (h : ¬ ∃ x ∈ C, labAt k ∈ x) : labsTo C (k + 1) = labsTo C k := by
  unfold labsTo
  rw [List.range_succ, List.map_append, List.filter_append]
  simp only [List.map_cons, List.map_nil, List.filter_cons, decide_eq_false h, List.filter_nil, Bool.false_eq_true, if_false, List.append_nil]
theorem labsTo_len (C : List (List Lb)) (n : Nat) : (labsTo C n).length ≤ n := by
  unfold labsTo
  exact Nat.le_trans (List.length_filter_le _ _) (by simp)
theorem mem_labs {C : List (List Lb)} {a : Lb} : a ∈ labsOf C ↔ LabC.rP a.1 a.2 ∧ ∃ x ∈ C, a ∈ x := by
  unfold labsOf labsTo
  rw [List.mem_filter, List.mem_map]
  constructor
  · rintro ⟨⟨k, hk, rfl⟩, h⟩
    rw [List.mem_range] at hk
    refine ⟨?_, of_decide_eq_true h⟩
    show 0 ≤ ((k / 8 : Nat) : Int) ∧ ((k / 8 : Nat) : Int) ≤ 3 ∧ 0 ≤ ((k % 8 : Nat) : Int) ∧ ((k % 8 : Nat) : Int) ≤ 7
    omega
  · rintro ⟨⟨h1, h2, h3, h4⟩, h⟩
    obtain ⟨l, s⟩ := a
    refine ⟨⟨(8 * l + s).toNat, ?_, ?_⟩, decide_eq_true h⟩
    · rw [List.mem_range]; simp only at h1 h2 h3 h4; omega
    · show ((((8 * l + s).toNat / 8 : Nat) : Int), (((8 * l + s).toNat % 8 : Nat) : Int)) = (l, s)
      simp only at h1 h2 h3 h4
      rw [Prod.mk.injEq]
      omega
theorem labs_sorted (C : List (List Lb)) (n : Nat) : (labsTo C n).Pairwise ltB := by
  unfold labsTo
  refine List.Pairwise.filter _ ?_
  rw [List.pairwise_map]
  refine List.Pairwise.imp ?_ List.pairwise_lt_range
  intro i j h
  show ((i / 8 : Nat) : Int) < ((j / 8 : Nat) : Int) ∨ ((i / 8 : Nat) : Int) = ((j / 8 : Nat) : Int) ∧ ((i % 8 : Nat) : Int) < ((j % 8 : Nat) : Int)
  omega
theorem ltB_trans {a b c : Lb} (h1 : ltB a b) (h2 : ltB b c) : ltB a c := by unfold ltB at *; omega
theorem ltB_irrefl {a : Lb} (h : ltB a a) : False := by unfold ltB at h; omega
theorem ltB_total (a b : Lb) : ltB a b ∨ a = b ∨ ltB b a := by
  unfold ltB
  obtain ⟨p, q⟩ := a
  obtain ⟨r, s⟩ := b
  simp only [Prod.mk.injEq]
  omega
theorem sorted_eq : ∀ {L M : List Lb}, L.Pairwise ltB → M.Pairwise ltB → (∀ a, a ∈ L ↔ a ∈ M) → L = M
  | [], [], _, _, _ => rfl
  | [], y :: ys, _, _, h => by have := (h y).2 List.mem_cons_self; cases this
  | x :: xs, [], _, _, h => by have := (h x).1 List.mem_cons_self; cases this
  | x :: xs, y :: ys, hL, hM, h => by
    rw [List.pairwise_cons] at hL hM
    have hxy : x = y := by
      rcases List.mem_cons.1 ((h x).1 List.mem_cons_self) with e | e
      · exact e
      · rcases List.mem_cons.1 ((h y).2 List.mem_cons_self) with e2 | e2
        · exact e2.symm
        · exact (ltB_irrefl (ltB_trans (hL.1 _ e2) (hM.1 _ e))).elim
    subst hxy
    rw [sorted_eq hL.2 hM.2 fun a => ?_]
    constructor
    · intro ha
      rcases List.mem_cons.1 ((h a).1 (List.mem_cons_of_mem _ ha)) with e | e
      · subst e; exact (ltB_irrefl (hL.1 _ ha)).elim
      · exact e
    · intro ha
      rcases List.mem_cons.1 ((h a).2 (List.mem_cons_of_mem _ ha)) with e | e
      · subst e; exact (ltB_irrefl (hM.1 _ ha)).elim
      · exact e
theorem sorted_len {L M : List Lb} (hL : L.Pairwise ltB) (hM : M.Pairwise ltB) (h : ∀ a, a ∈ L → a ∈ M) : L.length ≤ M.length := by
  have e : L = M.filter (fun a => decide (a ∈ L)) := sorted_eq hL (hM.filter _) fun a => by
    rw [List.mem_filter]
    exact ⟨fun ha => ⟨h a ha, decide_eq_true ha⟩, fun ha => of_decide_eq_true ha.2⟩
  rw [e]
  exact List.length_filter_le _ _
theorem compact_sorted {d : Array Lb} (hs : ∀ i j, i < j → j < d.size → ¬ ltB d[j]! d[i]!) :
    ∀ m, m ≤ d.size → (compactUpTo d m).Pairwise ltB ∧ (∀ a, a ∈ compactUpTo d m ↔ ∃ j, j < m ∧ d[j]! = a) ∧ (∀ a ∈ compactUpTo d m, a = d[m - 1]! ∨ ltB a d[m - 1]!)
  | 0, _ => by
    refine ⟨List.Pairwise.nil, fun a => ⟨fun h => (by cases h), fun ⟨j, h, _⟩ => absurd h (Nat.not_lt_zero _)⟩, fun a h => (by cases h)⟩
  | m + 1, hm => by
    obtain ⟨h1, h2, h3⟩ := compact_sorted hs m (by omega)
    rw [compactUpTo_succ]
    show _ ∧ _ ∧ ∀ a ∈ _, a = d[m]! ∨ ltB a d[m]!
    by_cases hk : keeps d m = true
    · rw [if_pos hk]
      have hlt : ∀ a ∈ compactUpTo d m, ltB a d[m]! := fun a ha => by
        by_cases hm0 : m = 0
        · subst hm0; cases ha
        · have hne : d[m]! ≠ d[m - 1]! := by
            have := of_decide_eq_true hk
            rcases this with h | h
            · exact absurd h hm0
            · exact h
          have hl : ltB d[m - 1]! d[m]! := by
            rcases ltB_total d[m - 1]! d[m]! with h | h | h
            · exact h
            · exact absurd h.symm hne
            · exact absurd h (hs (m - 1) m (by omega) (by omega))
          rcases h3 a ha with e | e
          · rw [e]; exact hl
          · exact ltB_trans e hl
      refine ⟨?_, fun a => ?_, fun a ha => ?_⟩
      · rw [List.pairwise_append]
        refine ⟨h1, List.pairwise_singleton _ _, fun a ha b hb => ?_⟩
        rw [List.mem_singleton] at hb
        subst hb
        exact hlt a ha
      · rw [List.mem_append, List.mem_singleton, h2]
        constructor
        · rintro (⟨j, hj, e⟩ | e)
          · exact ⟨j, by omega, e⟩
          · exact ⟨m, by omega, e.symm⟩
        · rintro ⟨j, hj, e⟩
          by_cases hjm : j = m
          · right; subst hjm; exact e.symm
          · left; exact ⟨j, by omega, e⟩
      · rw [List.mem_append, List.mem_singleton] at ha
        rcases ha with ha | ha
        · right; exact hlt a ha
        · left; exact ha
    · rw [if_neg hk, List.append_nil]
      have hk' : m ≠ 0 ∧ d[m]! = d[m - 1]! := by
        have h : ¬ (m = 0 ∨ d[m]! ≠ d[m - 1]!) := fun h => hk (decide_eq_true h)
        exact ⟨fun e => h (Or.inl e), Classical.byContradiction fun e => h (Or.inr e)⟩
      refine ⟨h1, fun a => ?_, fun a ha => ?_⟩
      · rw [h2]
        constructor
        · rintro ⟨j, hj, e⟩; exact ⟨j, by omega, e⟩
        · rintro ⟨j, hj, e⟩
          by_cases hjm : j = m
          · subst hjm; exact ⟨j - 1, by omega, hk'.2 ▸ e⟩
          · exact ⟨j, by omega, e⟩
      · rw [hk'.2]; exact h3 a ha
abbrev Pr3 := Lb × Lb × Int
abbrev Qt := Lb × Int
def okP (labs : List Lb) (P : List Pr3) (i : Nat) (x : Pr3) : Prop := x.1 ∈ labs ∧ x.2.1 ∈ labs ∧ LabC.bB x.1.1 x.1.2 x.2.1.1 x.2.1.2 = false ∧ SpanC.isB x.2.2 1 3 = true ∧ ∀ (k : Nat) y, k < i → P[k]? = some y → ¬ (y.1 = x.1 ∧ y.2.1 = x.2.1)
def PairsR (labs : List Lb) (P : List Pr3) : Prop := P.length ≤ 4 ∧ ∀ (i : Nat) x, P[i]? = some x → okP labs P i x
def okQ (labs : List Lb) (Q : List Qt) (i : Nat) (x : Qt) : Prop := x.1 ∈ labs ∧ SpanC.isB x.2 1 9 = true ∧ (0 < i → ∀ y, Q[i - 1]? = some y → ltB y.1 x.1)
def QuotasR (labs : List Lb) (Q : List Qt) : Prop := ∀ (i : Nat) x, Q[i]? = some x → okQ labs Q i x
theorem quotas_sorted {labs : List Lb} : ∀ {Q : List Qt}, QuotasR labs Q → (Q.map (·.1)).Pairwise ltB
  | [], _ => List.Pairwise.nil
  | [x], _ => List.pairwise_singleton _ _
  | x :: y :: t, h => by
    have ht : QuotasR labs (y :: t) := fun i z hz => by
      obtain ⟨h1, h2, h3⟩ := h (i + 1) z (by simpa using hz)
      refine ⟨h1, h2, fun hi w hw => h3 (by omega) w ?_⟩
      show (x :: y :: t)[i]? = some w
      obtain ⟨i', rfl⟩ : ∃ i', i = i' + 1 := ⟨i - 1, by omega⟩
      simpa using hw
    have hp := quotas_sorted ht
    rw [List.map_cons]
    refine List.pairwise_cons.2 ⟨fun a ha => ?_, hp⟩
    have hxy : ltB x.1 y.1 := (h 1 y rfl).2.2 (by omega) x rfl
    rw [List.map_cons] at ha hp
    rcases List.mem_cons.1 ha with e | e
    · rw [e]; exact hxy
    · exact ltB_trans hxy ((List.pairwise_cons.1 hp).1 a e)
theorem quotas_len {labs : List Lb} {Q : List Qt} (hl : labs.Pairwise ltB) (h : QuotasR labs Q) : Q.length ≤ labs.length := by
  refine Nat.le_trans (Nat.le_of_eq (show (Q.map (·.1)).length = Q.length from List.length_map _).symm) ?_
  refine sorted_len (quotas_sorted h) hl fun a ha => ?_
  obtain ⟨x, hx, rfl⟩ := List.mem_map.1 ha
  obtain ⟨i, hi⟩ := List.getElem?_of_mem hx
  exact (h i x hi).1
end Go.Proofs.YtelhmacfljffhaaGreat.CfC
end
section
namespace Go.Proofs.YtelhmacfljffhaaGreat.RepC
open Go.RowKit RowC ValC SpanC KeptC CfC
set_option linter.unusedVariables false
set_option linter.unusedSimpArgs false
set_option maxRecDepth 100000 in
set_option maxHeartbeats 1600000 in
theorem labs_spec {C : List (List D_Label)} {a : Option Addr} {cap : Nat} {W : World} (h : RdSl (Sl R_Label) W W.heap.size C a cap) :
    Calls Tryz.prog 28 #[.slice a C.length cap] W (NewS R_Label (labsOf C) W) := by
  have hn : C.length ≤ 9223372036854775807 := by have h1 := h.1; have h2 := h.2.1; unfold maxLen at h2; omega
  have H := Lib.hid h
  clear h
  go_enter Tryz.func28, Tryz.ntmps28
  go_wp2
  go_loopw [3, 4] (fun v i wr => ∃ k lo : Nat, k ≤ 32 ∧ i = .int .i64 k ∧ W.heap.size ≤ lo ∧ lo ≤ wr.heap.size ∧ Hid (BRow wr lo v (labsTo C k)) ∧ Below W.heap.size W wr) (fun _ i _ => 32 - (intOf i).toNat)
  case atStart => exact ⟨0, W.heap.size, by omega, rfl, Nat.le_refl _, by simp, Lib.hid (FRow.made _ _ _ _), (Below.refl _ _).alloc (Nat.le_refl _) _⟩
  case round =>
    obtain ⟨k, lo, hk, rfl, hlo, hlw, HV, hB⟩ := hrel
    obtain ⟨wo, rfl⟩ : ∃ x, x = wr := ⟨_, rfl⟩
    have HB := Lib.hid hB
    have hsz := hB.size
    clear hB
    obtain ⟨va, vc, rfl⟩ := HV.out.isSlice
    by_cases hlt : k < 32
    · have hd : decide ((k : Int) < 32) = true := decide_eq_true (by omega)
      obtain ⟨l, hl⟩ : ∃ l : Int, l = (k : Int) / 8 := ⟨_, rfl⟩
      obtain ⟨s, hs⟩ : ∃ s : Int, s = (k : Int) % 8 := ⟨_, rfl⟩
      have hLA := Lib.hid (show labAt k = (l, s) from by unfold labAt; rw [hl, hs]; rfl)
      obtain ⟨w1, hw1⟩ : ∃ w, w = wo.alloc (.cells #[.int .i64 ((k : Int) / 8), .int .i64 ((k : Int) % 8)] 67) := ⟨_, rfl⟩
      have hbA : Below wo.heap.size wo w1 := by rw [hw1]; exact (Below.refl _ _).alloc (Nat.le_refl _) _
      have HP1 := Lib.hid (show Blk w1 wo.heap.size 67 #[.int .i64 l, .int .i64 s] from by rw [hw1, hl, hs]; exact Blk.new _ _ _)
      clear hl hs
      have HB1 := Lib.hid (HB.out.trans (hbA.mono hsz))
      have HV1 := Lib.hid (HV.out.call hbA)
      have hz1 := HB1.out.size
      have hzA := hbA.size
      clear HV
      go_wp2
      rw [← hw1]
      clear hw1
      go_loopw [6, 7] (fun f i wr => ∃ (j : Nat) (b : Bool), j ≤ C.length ∧ i = .int .i64 j ∧ f = .bool b ∧ Hid (b = true ↔ ∃ x ∈ C.take j, (l, s) ∈ x) ∧ Below w1.heap.size w1 wr) (fun _ i _ => C.length - (intOf i).toNat)
      case atStart => exact ⟨0, false, Nat.zero_le _, rfl, rfl, Lib.hid (by simp), Below.refl _ _⟩
      case round =>
        obtain ⟨j, b, hj, rfl, rfl, HQ0, hB⟩ := hrel
        have HB2 := Lib.hid hB
        have HB3 := Lib.hid (HB1.out.trans (hB.mono hz1))
        have HP3 := Lib.hid (HP1.out.call hB)
        have hz2 := hB.size
        clear hB
        by_cases hjl : j < C.length
        · have hd2 : decide ((j : Int) < (C.length : Int)) = true := decide_eq_true (by omega)
          obtain ⟨x, hx⟩ := el_some hjl
          have HX := Lib.hid (show C.take (j + 1) = C.take j ++ [x] from by rw [List.take_add_one, hx]; rfl)
          cases b with
          | true =>
            have HQ1 := Lib.hid (show ∃ x ∈ C.take (j + 1), (l, s) ∈ x from by
              obtain ⟨y, hy, hm⟩ := HQ0.out.1 rfl
              exact ⟨y, by rw [HX.out]; exact List.mem_append_left _ hy, hm⟩)
            clear hx
            go_wp2_with fail
            refine wp_region_held_drew (S := (fun V => Below (wr).heap.size (wr) V)) (by kernel_rfl) ((Below.refl _ _).drew) (fun hHeld => ?_)
            refine tk 0 hHeld ?_
            refine tk 1 hHeld ?_
            refine tn 2 hHeld ?_
            refine tn 3 hHeld ?_
            refine tn 4 hHeld ?_
            refine tn 5 hHeld ?_
            refine tn 6 hHeld ?_
            refine tn 7 hHeld ?_
            refine tk 8 hHeld ?_
            refine tk 9 hHeld ?_
            refine rd0 ?_
            have HF := Lib.hid hHeld
            clear hHeld
            have HB4 := Lib.hid (HB2.out.trans (HF.out.mono hz2))
            clear HF
            go_wp2
            go_roundw
            case rel => exact ⟨j + 1, true, by omega, by go_num, rfl, Lib.hid ⟨fun _ => HQ1.out, fun _ => rfl⟩, HB4.out⟩
            case measure => simp [intOf]; omega
          | false =>
            obtain ⟨g, o, us, rfl, hg, hu, hr⟩ := (H.out.below (Sl_ok R_Label_ok) HB3.out).at_ hx
            obtain ⟨a1, c1, rfl, k_x⟩ := hr
            have e0 : wr.cell? ⟨g, o + j, none⟩ = some (.slice a1 x.length c1) := by simpa [size_SLab] using hu 0 _ rfl
            have hi0 : (0 : Int) ≤ (j : Int) := Int.natCast_nonneg _
            have hi1 : (j : Int) < (C.length : Int) := by omega
            have HG := Lib.hid (show g < wr.heap.size by omega)
            have HK := Lib.hid (k_x.more R_Label_ok (show W.heap.size ≤ wr.heap.size by omega))
            clear hx hu k_x hg
            go_wp2_with fail
            refine wp_region_held_drew (S := (fun V => Below (wr).heap.size (wr) V)) (by kernel_rfl) ((Below.refl _ _).drew) (fun hHeld => ?_)
            refine tk 0 hHeld ?_
            refine tk 1 hHeld ?_
            refine tk 2 hHeld ?_
            refine tk 3 hHeld ?_
            refine tk 4 hHeld ?_
            refine tk 5 hHeld ?_ (hy := fun w hSw => by (try dsimp only at hSw); have k0 := (hSw.cell (p := ⟨g, o + j, none⟩) HG.out).trans e0; clear hSw; go_simp; try with_reducible rfl)
            refine tk 6 hHeld ?_ (hy := fun w hSw => by (try dsimp only at hSw); have k0 := (hSw.cell (p := ⟨wo.heap.size, 0, none⟩) HP3.out.lt).trans (HP3.out.at_ 0 rfl); have k1 := (hSw.cell (p := ⟨wo.heap.size, 1, none⟩) HP3.out.lt).trans (HP3.out.at_ 1 rfl); clear hSw; go_simp; try with_reducible rfl)
            refine rd1 7 (fun K hK => ?_)
            go_simp
            go_at_call 29
            refine (cleared_spec (rd_mv R_Label_ok HK.out hHeld)).mono ?_
            intro e w4 h
            obtain ⟨q, rfl, hq2, hb⟩ := resB_elim h
            have HQ := Lib.hid hq2
            clear h hq2
            refine hK.out _ _ (hHeld.trans (hb.mono hHeld.size)) (fun hHeld => ?_)
            clear hK K hb
            refine tk 8 hHeld ?_
            refine tk 9 hHeld ?_
            refine rd0 ?_
            have HF := Lib.hid hHeld
            clear hHeld
            have HQ1 := Lib.hid (show q = true ↔ ∃ x ∈ C.take (j + 1), (l, s) ∈ x from by
              rw [HX.out, HQ.out]
              constructor
              · intro hm; exact ⟨x, List.mem_append_right _ (List.mem_singleton.2 rfl), hm⟩
              · rintro ⟨y, hy, hm⟩
                rcases List.mem_append.1 hy with hy | hy
                · exact absurd (HQ0.out.2 ⟨y, hy, hm⟩) (by simp)
                · rw [List.mem_singleton] at hy; subst hy; exact hm)
            have HB4 := Lib.hid (HB2.out.trans (HF.out.mono hz2))
            clear HF
            go_wp2
            go_roundw
            case rel => exact ⟨j + 1, q, by omega, by go_num, rfl, HQ1, HB4.out⟩
            case measure => simp [intOf]; omega
        · have hd2 : decide ((j : Int) < (C.length : Int)) = false := decide_eq_false (by omega)
          have HT := Lib.hid (show C.take j = C from List.take_of_length_le (by omega))
          have HV3 := Lib.hid (HV1.out.call HB2.out)
          cases b with
          | false =>
            have HE := Lib.hid (show labsTo C (k + 1) = labsTo C k from labsTo_no (by
              rw [hLA.out]; intro hm
              rw [← HT.out] at hm
              exact absurd (HQ0.out.2 hm) (by simp)))
            go_wp2
            go_roundw
            case rel => exact ⟨k + 1, lo, by omega, by go_num, hlo, by omega, Lib.hid (by rw [HE.out]; exact HV3.out), HB3.out⟩
            case measure => simp [intOf]; omega
          | true =>
            have HE := Lib.hid (show labsTo C (k + 1) = labsTo C k ++ [(l, s)] from by
              rw [← hLA.out]
              refine labsTo_yes ?_
              rw [hLA.out]
              have := HQ0.out.1 rfl
              rw [HT.out] at this
              exact this)
            have q0 := HP3.out.at_ 0 rfl
            have q1 := HP3.out.at_ 1 rfl
            obtain ⟨w5, hw5⟩ : ∃ w, w = wr.alloc (.cells #[.int .i64 l, .int .i64 s] 67) := ⟨_, rfl⟩
            have hbB : Below wr.heap.size wr w5 := by rw [hw5]; exact (Below.refl _ _).alloc (Nat.le_refl _) _
            have HP5 : Blk w5 wr.heap.size 67 #[.int .i64 l, .int .i64 s] := by rw [hw5]; exact Blk.new _ _ _
            have hlen := labsTo_len C k
            have hz5 := hbB.size
            obtain ⟨a', c', w6, hrun, hrow, hb6⟩ := BRow.more (HV3.out.call hbB) (rd_oneL l s HP5) (show lo ≤ w5.heap.size by omega) (by simp only [List.length_singleton]; omega)
            have HR := Lib.hid hrun
            have HV6 := Lib.hid hrow
            have HB6 := Lib.hid ((HB3.out.trans (hbB.mono (by omega))).trans (hb6.mono (by omega)))
            have hz6 := hb6.size
            rw [hw5] at HR
            have HW5 := Lib.hid hw5
            clear hrun hrow hb6 hbB HP5 hw5
            go_wp2_with (at_builtin; refine wpList_app rfl (.tmp 34) (.tmp 36) 72 rfl rfl rfl HR.out ?_)
            go_roundw
            case rel => exact ⟨k + 1, lo, by omega, by go_num, hlo, by omega, Lib.hid (by rw [HE.out]; simpa using HV6.out), HB6.out⟩
            case measure => simp [intOf]; omega
    · have hd : decide ((k : Int) < 32) = false := decide_eq_false (by omega)
      obtain rfl : k = 32 := by omega
      go_wp2
      go_ret
      exact FRow.news R_Label_ok flat_Label HV.out hlo HB.out
end Go.Proofs.YtelhmacfljffhaaGreat.RepC
end
section
namespace Go.Proofs.YtelhmacfljffhaaGreat.LiftL
open Go.ChangeShapes Go.WideShapes Go.ChangeAt Go.RowKit Go.Joins
section
variable {H : Type} {enc : TypeId × Value → H} {P : Program}
def allRead (P : Program) (ts : List TypeId) : Bool := ts.all fun t => P.readableRec t && decide (t < P.types.size)
theorem trodAll_stays (hl : laidOutB P = true) {W W' : World} (hb : Below W.heap.size W W') : ∀ (ts : List TypeId) (vs : List Value) (ds : List (DataW H)) (ps : List MemPlace), allRead P ts = true →
    DataW.TrodAll enc P W 0 (fun _ => true) true ts vs ds ps → DataW.TrodAll enc P W' 0 (fun b => decide (b < W.heap.size)) true ts vs ds ps
  | [], vs, ds, ps, _, h => by
    obtain ⟨rfl, rfl, rfl⟩ := trodAll_nil h
    exact trodAll_mk0
  | t :: ts, vs, ds, ps, hr, h => by
    obtain ⟨v, vs', d, ds', p, q, rfl, rfl, rfl, h1, h2⟩ := trodAll_cons h
    have hr' : (P.readableRec t = true ∧ t < P.types.size) ∧ allRead P ts = true := by
      unfold allRead at hr
      simpa [List.all_cons, allRead] using hr
    have lt : ∀ x ∈ p, x.block < W.heap.size := by obtain ⟨m, hm⟩ := h1; exact DataW.trod_lt m _ _ _ hm
    exact trodAll_cons_mk (Below.trod hl hr'.1.1 hr'.1.2 h1 hb lt) (trodAll_stays hl hb ts vs' ds' q hr'.2 h2)
theorem var_stays {W W' : World} (hb : Below W.heap.size W W') {n : String} {g : Nat} {cs : Array Value} (hg : P.globalNamed n = some g) (h : W.var? P n = some cs) : W'.var? P n = some cs := by
  have hlt : g < W.heap.size := by
    simp only [World.var?, hg, Option.bind_some] at h
    cases hw : W.heap[g]? with
    | none => rw [hw] at h; simp at h
    | some o => exact (Array.getElem?_eq_some_iff.1 hw).1
  simp only [World.var?, hg, Option.bind_some] at h ⊢
  rw [hb.block g hlt]
  exact h
def varsRead (P : Program) (ns : List String) : Bool := ns.all fun n => match (P.globalNamed n).bind (fun g => (P.globals[g]?).map (·.type)) with | some t => P.readableRec t && decide (t < P.types.size) | none => false
theorem trodVars_stays (hl : laidOutB P = true) {W W' : World} (hb : Below W.heap.size W W') : ∀ (ns : List String) (gs : List (DataW H)) (ps : List MemPlace), varsRead P ns = true →
    DataW.TrodVars enc P W (fun _ => true) ns gs ps → DataW.TrodVars enc P W' (fun b => decide (b < W.heap.size)) ns gs ps
  | [], gs, ps, _, h => by
    obtain ⟨rfl, rfl⟩ := trodVars_none h
    exact rfl
  | n :: ns, [], ps, _, h => by cases h
  | n :: ns, d :: gs, ps, hr, h => by
    obtain ⟨g, t, cs, fuel, p, q, h1, h2, h3, h4, h5, rfl⟩ := h
    have hr' : (P.readableRec t = true ∧ t < P.types.size) ∧ varsRead P ns = true := by
      unfold varsRead at hr
      rw [List.all_cons, Bool.and_eq_true] at hr
      have h0 := hr.1
      rw [h1, Option.bind_some, h2] at h0
      simp only [Bool.and_eq_true, decide_eq_true_eq] at h0
      exact ⟨h0, hr.2⟩
    have lt : ∀ x ∈ p, x.block < W.heap.size := DataW.trod_lt fuel _ _ _ h4
    obtain ⟨fuel', h6⟩ := Below.trod hl hr'.1.1 hr'.1.2 (v := .agg cs) (d := d) (ps := p) ⟨fuel, h4⟩ hb lt
    exact ⟨g, t, cs, fuel', p, q, h1, h2, var_stays hb h1 h3, h6, trodVars_stays hl hb ns gs q hr'.2 h5, rfl⟩
theorem post_law {f : Func} {s : ChangeSpec} {W W' : World} {args : Array Value} {ds gs : List (DataW H)} {before : List MemPlace} {tb : TypeId} (hspec : s.fn H (ds ++ gs) = { results := [.lit (.bool true)], args := ds, vars := gs })
    (hl : laidOutB P = true) (hr : allRead P f.params.toList = true) (hv : varsRead P s.vars = true) (hres : f.resultTypes = #[tb]) (hbool : P.underlying tb = some .bool)
    (hW : DataW.Whole enc P f.params.toList s.vars false W args.toList ds gs before) (hb : Below W.heap.size W W') : s.post enc P f false true false false W args (.bool true) W' := by
  have hW' := hW
  obtain ⟨p, q, hA, hV, rfl, _, _⟩ := hW
  refine ⟨ds, gs, _, [], p, q, hW', ?_, ?_, ?_, hb.frame _, fun h => by cases h⟩
  · rw [hspec, hres]
    exact trodAll_mk1 (shut_bool hbool _)
  · rw [hspec]
    exact trodAll_stays hl hb _ _ _ _ hr hA
  · rw [hspec]
    exact trodVars_stays hl hb _ _ _ hv hV
end
end Go.Proofs.YtelhmacfljffhaaGreat.LiftL
end
section
namespace Go.Proofs.YtelhmacfljffhaaGreat.RepC
open Go.ChangeShapes Go.WideShapes Go.ChangeAt Go.RowKit Go.Joins Go.Deep RowC ValC
set_option linter.unusedVariables false
set_option maxRecDepth 100000
def Opn {α : Type} (E : Rp α) (t : TypeId) : Prop := ∀ {H : Type} (enc : TypeId × Value → H) (W : World) (fuel : Nat) (cs : List Value) (y : DataW H × List MemPlace), DataW.trod enc Tryz.prog W 0 (fun _ => true) true fuel t cs = some y → ∃ d, E.rd W W.heap.size d cs
theorem opn_int {t : TypeId} (ht : Tryz.prog.underlying t = some (.int .i64)) : Opn I t := fun enc W fuel cs y h => by
  obtain ⟨n, rfl, _, _⟩ := DataW.trod_int ht h
  exact ⟨n, rfl⟩
theorem add_addr (b o k : Nat) : (⟨b, o, none⟩ : Addr).add k = ⟨b, o + k, none⟩ := by
  unfold Addr.add; split
  · rename_i hz; rw [hz]; rfl
  · rfl
theorem opn_sl {α : Type} {E : Rp α} {t e : TypeId} (hE : Opn E e) (hp : 0 < E.size) (ht : Tryz.prog.underlying t = some (.slice e)) (hc : Tryz.prog.cellsOf e = E.size) : Opn (Sl E) t := fun enc W fuel cs y h => by
  rcases open_slice ht h with ⟨rfl, _⟩ | ⟨x, n, cap, m, k, D, Pl, rfl, _, hl, hm, hmm, _, hi⟩
  · exact ⟨[], none, 0, rfl, Nat.le_refl _, Nat.zero_le _, fun h => absurd h (Nat.lt_irrefl _)⟩
  · simp only [if_true] at hmm
    rw [hc] at hi
    have hone : ∀ i, i < n → ∃ d us, us.length = E.size ∧ (∀ j, j < E.size → W.cell? ((x.add (i * E.size)).add j) = us[j]?) ∧ E.rd W W.heap.size d us := fun i hin => by
      obtain ⟨us, h1, h2⟩ := hi i (by omega)
      obtain ⟨_, h3, h4⟩ := World.cells?_some h1
      obtain ⟨d, hd⟩ := hE enc W k us _ h2
      exact ⟨d, us, h3, h4, hd⟩
    by_cases hn : n = 0
    · subst hn
      exact ⟨[], some x, cap, rfl, hl, hm, fun h => absurd h (Nat.lt_irrefl _)⟩
    · obtain ⟨d0, us0, l0, c0, _⟩ := hone 0 (by omega)
      have e0 : (x.add (0 * E.size)).add 0 = x := by simp [Addr.add]
      have h0 := c0 0 hp
      rw [e0] at h0
      have hu : ∃ u, us0[0]? = some u := ⟨us0[0], List.getElem?_eq_getElem (by omega)⟩
      obtain ⟨u, hu⟩ := hu
      rw [hu] at h0
      have hsp : x.spot = none := by
        cases hs : x.spot with
        | none => rfl
        | some s => simp [World.cell?, hs] at h0; split at h0 <;> simp at h0
      obtain ⟨b, off, sp⟩ := x
      simp only at hsp
      subst hsp
      have hb := World.block_lt_of_cell? W ⟨b, off, none⟩ h0
      have hall : ∀ q, q ≤ n → ∃ L : List α, L.length = q ∧ ∀ i d, L[i]? = some d → ∃ us, CellsAt W b (off + i * E.size) us ∧ E.rd W W.heap.size d us := by
        intro q
        induction q with
        | zero => exact fun _ => ⟨[], rfl, fun i d hd => by simp at hd⟩
        | succ q ih =>
          intro hq
          obtain ⟨L, hL, hall⟩ := ih (by omega)
          obtain ⟨d, us, hus, hcs, hd⟩ := hone q (by omega)
          refine ⟨L ++ [d], by simp [hL], fun i z hz => ?_⟩
          by_cases hi : i < L.length
          · rw [List.getElem?_append_left hi] at hz
            exact hall i z hz
          · rw [List.getElem?_append_right (by omega)] at hz
            have hi2 : i = q := by
              have := (List.getElem?_eq_some_iff.1 hz).1
              simp at this
              omega
            subst hi2
            simp [hL] at hz
            subst hz
            refine ⟨us, fun j c hj => ?_, hd⟩
            have hj2 := (List.getElem?_eq_some_iff.1 hj).1
            have := hcs j (by omega)
            rw [add_addr, add_addr, hj] at this
            exact this
      obtain ⟨L, hL, hel⟩ := hall n (Nat.le_refl _)
      subst hL
      exact ⟨L, some ⟨b, off, none⟩, cap, rfl, hl, hm, fun _ => ⟨b, off, rfl, hb, hel⟩⟩
theorem fld {H : Type} {enc : TypeId × Value → H} {W : World} {n : Nat} {cs : List Value} {fs : Array Field} {xs : List (DataW H × List MemPlace)} (hf : ∀ (i : Nat) (f : Field), fs[i]? = some f → DataW.trod enc Tryz.prog W 0 (fun _ => true) true n f.type ((cs.drop f.offset).take (Tryz.prog.cellsOf f.type)) = xs[i]?)
    (i : Nat) (t o k : Nat) (h : fs[i]?.map (fun f => (f.type, f.offset)) = some (t, o)) (hc : Tryz.prog.cellsOf t = k) : DataW.trod enc Tryz.prog W 0 (fun _ => true) true n t ((cs.drop o).take k) = xs[i]? := by
  cases e : fs[i]? with
  | none => rw [e] at h; cases h
  | some f =>
    rw [e] at h
    simp only [Option.map_some, Option.some.injEq, Prod.mk.injEq] at h
    obtain ⟨rfl, rfl⟩ := h
    subst hc
    exact hf i f e
theorem open_st {α : Type} {E : Rp α} {t : TypeId} {fs : Array Field} (hO : Opn E t) (ht : Tryz.prog.underlying t = some (.struct fs)) {H : Type} {enc : TypeId × Value → H} {W : World} {base : Nat} {v : Value} {d : DataW H} {p : List MemPlace} (o : Value.okWide Tryz.prog W .any base t v)
    (h : DataW.Trod enc Tryz.prog W 0 (fun _ => true) true t v d p) : ∃ (x : α) (cs : List Value), v = .agg cs.toArray ∧ E.rd W W.heap.size x cs := by
  obtain ⟨cs, rfl, _⟩ := okWide_struct ht o
  obtain ⟨fuel, hf⟩ := h
  obtain ⟨x, hx⟩ := hO enc W fuel _ _ hf
  exact ⟨x, cs.toList, rfl, hx⟩
end Go.Proofs.YtelhmacfljffhaaGreat.RepC
end
section
namespace Go.Proofs.YtelhmacfljffhaaGreat.RepC
open Go.ChangeShapes Go.WideShapes Go.ChangeAt Go.RowKit Go.Joins Go.Deep RowC ValC
set_option linter.unusedVariables false
set_option maxRecDepth 100000
theorem c_int64 : Tryz.prog.cellsOf 2 = 1 := by kernel_rfl
theorem c_i64s : Tryz.prog.cellsOf 68 = 1 := by kernel_rfl
theorem c_Label : Tryz.prog.cellsOf 108 = 2 := by kernel_rfl
theorem opn_i64 : Opn I 2 := opn_int Tryz.underlying2
theorem opn_i64s : Opn (Sl I) 68 := opn_sl opn_i64 (by decide) Tryz.underlying68 c_int64
theorem opn_Label : Opn R_Label 108 := fun enc W fuel cs y h => by
  obtain ⟨xs, n, _, _, hl, hlen, hf⟩ := DataW.trod_struct Tryz.underlying108 h
  rw [c_Label] at hl
  match cs, hl with
  | [c0, c1], _ =>
    have e2 : xs.length = 2 := hlen
    match xs, e2 with
    | [y0, y1], _ =>
      have g0 := fld hf 0 2 0 1 rfl c_int64
      have g1 := fld hf 1 2 1 1 rfl c_int64
      obtain ⟨d0, h0⟩ := opn_i64 enc W n [c0] y0 g0
      obtain ⟨d1, h1⟩ := opn_i64 enc W n [c1] y1 g1
      exact ⟨(d0, d1), [c0], [c1], rfl, h0, h1⟩
end Go.Proofs.YtelhmacfljffhaaGreat.RepC
end
section
namespace Go.Proofs.YtelhmacfljffhaaGreat.RepC
open Go.ChangeShapes Go.WideShapes Go.ChangeAt Go.RowKit Go.Joins Go.Deep RowC ValC
set_option linter.unusedVariables false
set_option maxRecDepth 100000
theorem c_LabelS : Tryz.prog.cellsOf 146 = 1 := by kernel_rfl
theorem c_LabelSS : Tryz.prog.cellsOf 22 = 1 := by kernel_rfl
theorem opn_LabelS : Opn (Sl R_Label) 146 := opn_sl opn_Label (by decide) Tryz.underlying146 c_Label
theorem opn_LabelSS : Opn (Sl (Sl R_Label)) 22 := opn_sl opn_LabelS (by decide) Tryz.underlying22 c_LabelS
end Go.Proofs.YtelhmacfljffhaaGreat.RepC
end
section
namespace Go.Proofs.YtelhmacfljffhaaGreat.RepC
open Go.RowKit RowC ValC Go.ChangeShapes
set_option maxRecDepth 100000
set_option linter.unusedVariables false
set_option linter.unusedSimpArgs false
theorem c_Pair : Tryz.prog.cellsOf 152 = 5 := by kernel_rfl
theorem opn_Pair : Opn R_Pair 152 := fun enc W fuel cs y h => by
  obtain ⟨xs, n, _, _, hl, hlen, hf⟩ := DataW.trod_struct Tryz.underlying152 h
  rw [c_Pair] at hl
  match cs, hl with
  | [c0, c1, c2, c3, c4], _ =>
    have e2 : xs.length = 3 := hlen
    match xs, e2 with
    | [y0, y1, y2], _ =>
      have g0 := fld hf 0 108 0 2 rfl c_Label
      have g1 := fld hf 1 108 2 2 rfl c_Label
      have g2 := fld hf 2 2 4 1 rfl c_int64
      obtain ⟨d0, h0⟩ := opn_Label enc W n [c0, c1] y0 g0
      obtain ⟨d1, h1⟩ := opn_Label enc W n [c2, c3] y1 g1
      obtain ⟨d2, h2⟩ := opn_i64 enc W n [c4] y2 g2
      exact ⟨(d0, d1, d2), ⟨[c0, c1], [c2, c3, c4], rfl, h0, ⟨[c2, c3], [c4], rfl, h1, h2⟩⟩⟩
theorem c_PairS : Tryz.prog.cellsOf 23 = 1 := by kernel_rfl
theorem opn_PairS : Opn (Sl R_Pair) 23 := opn_sl opn_Pair (by decide) Tryz.underlying23 c_Pair
theorem c_Quota : Tryz.prog.cellsOf 155 = 3 := by kernel_rfl
theorem opn_Quota : Opn R_Quota 155 := fun enc W fuel cs y h => by
  obtain ⟨xs, n, _, _, hl, hlen, hf⟩ := DataW.trod_struct Tryz.underlying155 h
  rw [c_Quota] at hl
  match cs, hl with
  | [c0, c1, c2], _ =>
    have e2 : xs.length = 2 := hlen
    match xs, e2 with
    | [y0, y1], _ =>
      have g0 := fld hf 0 108 0 2 rfl c_Label
      have g1 := fld hf 1 2 2 1 rfl c_int64
      obtain ⟨d0, h0⟩ := opn_Label enc W n [c0, c1] y0 g0
      obtain ⟨d1, h1⟩ := opn_i64 enc W n [c2] y1 g1
      exact ⟨(d0, d1), ⟨[c0, c1], [c2], rfl, h0, h1⟩⟩
theorem c_QuotaS : Tryz.prog.cellsOf 24 = 1 := by kernel_rfl
theorem opn_QuotaS : Opn (Sl R_Quota) 24 := opn_sl opn_Quota (by decide) Tryz.underlying24 c_Quota
theorem c_Config : Tryz.prog.cellsOf 26 = 4 := by kernel_rfl
theorem opn_Config : Opn R_Config 26 := fun enc W fuel cs y h => by
  obtain ⟨xs, n, _, _, hl, hlen, hf⟩ := DataW.trod_struct Tryz.underlying26 h
  rw [c_Config] at hl
  match cs, hl with
  | [c0, c1, c2, c3], _ =>
    have e2 : xs.length = 4 := hlen
    match xs, e2 with
    | [y0, y1, y2, y3], _ =>
      have g0 := fld hf 0 22 0 1 rfl c_LabelSS
      have g1 := fld hf 1 23 1 1 rfl c_PairS
      have g2 := fld hf 2 24 2 1 rfl c_QuotaS
      have g3 := fld hf 3 2 3 1 rfl c_int64
      obtain ⟨d0, h0⟩ := opn_LabelSS enc W n [c0] y0 g0
      obtain ⟨d1, h1⟩ := opn_PairS enc W n [c1] y1 g1
      obtain ⟨d2, h2⟩ := opn_QuotaS enc W n [c2] y2 g2
      obtain ⟨d3, h3⟩ := opn_i64 enc W n [c3] y3 g3
      exact ⟨(d0, d1, d2, d3), ⟨[c0], [c1, c2, c3], rfl, h0, ⟨[c1], [c2, c3], rfl, h1, ⟨[c2], [c3], rfl, h2, h3⟩⟩⟩⟩
end Go.Proofs.YtelhmacfljffhaaGreat.RepC
end
section
namespace Go.Proofs.YtelhmacfljffhaaGreat.RepC
open Go.RowKit RowC ValC SpanC KeptC CfC
set_option linter.unusedVariables false
set_option linter.unusedSimpArgs false
set_option maxRecDepth 100000 in
set_option maxHeartbeats 3200000 in
theorem pairs_spec {L : List D_Label} {P : List D_Pair} {la pa : Option Addr} {lc pc : Nat} {W : World} (hL : RdSl R_Label W W.heap.size L la lc) (hP : RdSl R_Pair W W.heap.size P pa pc) :
    Calls Tryz.prog 69 #[.slice la L.length lc, .slice pa P.length pc] W (ResB (PairsR L P) W) := by
  have hn : P.length ≤ 9223372036854775807 := by have h1 := hP.1; have h2 := hP.2.1; unfold maxLen at h2; omega
  have HL := Lib.hid hL
  have HP := Lib.hid hP
  clear hL hP
  by_cases h4 : P.length ≤ 4
  rotate_left
  · have hd : decide ((P.length : Int) > 4) = true := decide_eq_true (by omega)
    have hd' : decide (4 < P.length) = true := decide_eq_true (by omega)
    have HN := Lib.hid (show ¬ PairsR L P from fun h => h4 h.1)
    go_enter Tryz.func69, Tryz.ntmps69
    go_wp2
    go_ret
    exact resB_no HN.out (Below.refl _ _)
  have hd : decide ((P.length : Int) > 4) = false := decide_eq_false (by omega)
  have hd' : decide (4 < P.length) = false := decide_eq_false (by omega)
  go_enter Tryz.func69, Tryz.ntmps69
  go_wp2
  go_loopw [5] (fun i wr => ∃ k : Nat, k ≤ P.length ∧ i = .int .i64 k ∧ Hid (∀ (j : Nat) x, j < k → P[j]? = some x → okP L P j x) ∧ Below W.heap.size W wr) (fun i _ => P.length - (intOf i).toNat)
  case atStart => exact ⟨0, Nat.zero_le _, rfl, Lib.hid fun j x h => absurd h (Nat.not_lt_zero _), Below.refl _ _⟩
  case round =>
    obtain ⟨k, hk, rfl, HA, hB⟩ := hrel
    obtain ⟨wo, rfl⟩ : ∃ x, x = wr := ⟨_, rfl⟩
    have HB := Lib.hid hB
    have hsz := hB.size
    by_cases hlt : k < P.length
    · have hdl : decide ((k : Int) < (P.length : Int)) = true := decide_eq_true (by omega)
      obtain ⟨⟨⟨x0, x1⟩, ⟨x2, x3⟩, x4⟩, hx⟩ := el_some hlt
      have HX := Lib.hid hx
      obtain ⟨g, o, us, rfl, hg, hu, hr⟩ := (HP.out.below R_Pair_ok hB).at_ hx
      obtain rfl := rd_Pair hr
      have e0 : wo.cell? ⟨g, o + k * 5, none⟩ = some (.int .i64 x0) := by simpa [size_PairS, Nat.add_assoc] using hu 0 _ rfl
      have e1 : wo.cell? ⟨g, o + k * 5 + 1, none⟩ = some (.int .i64 x1) := by simpa [size_PairS, Nat.add_assoc] using hu 1 _ rfl
      have e2 : wo.cell? ⟨g, o + k * 5 + 2, none⟩ = some (.int .i64 x2) := by simpa [size_PairS, Nat.add_assoc] using hu 2 _ rfl
      have e3 : wo.cell? ⟨g, o + k * 5 + 3, none⟩ = some (.int .i64 x3) := by simpa [size_PairS, Nat.add_assoc] using hu 3 _ rfl
      have e4 : wo.cell? ⟨g, o + k * 5 + 4, none⟩ = some (.int .i64 x4) := by simpa [size_PairS, Nat.add_assoc] using hu 4 _ rfl
      have hi0 : (0 : Int) ≤ (k : Int) := Int.natCast_nonneg _
      have hi1 : (k : Int) < (P.length : Int) := by omega
      obtain ⟨w1, hw1⟩ : ∃ w, w = wo.alloc (.cells #[.int .i64 x0, .int .i64 x1, .int .i64 x2, .int .i64 x3, .int .i64 x4] 149) := ⟨_, rfl⟩
      have hbA : Below wo.heap.size wo w1 := by rw [hw1]; exact (Below.refl _ _).alloc (Nat.le_refl _) _
      have HP1 := Lib.hid (show Blk w1 wo.heap.size 149 #[.int .i64 x0, .int .i64 x1, .int .i64 x2, .int .i64 x3, .int .i64 x4] from by rw [hw1]; exact Blk.new _ _ _)
      have HB1 := Lib.hid (HB.out.trans (hbA.mono hsz))
      have HL1 := Lib.hid (rd_mv R_Label_ok HL.out HB1.out)
      have hz1 := HB1.out.size
      have q0 := HP1.out.at_ 0 rfl
      have q1 := HP1.out.at_ 1 rfl
      have q2 := HP1.out.at_ 2 rfl
      have q3 := HP1.out.at_ 3 rfl
      have q4 := HP1.out.at_ 4 rfl
      clear hB hx hu hr
      go_wp2_with fail
      rw [← hw1]
      clear hw1 hbA e0 e1 e2 e3 e4
      refine (cleared_spec HL1.out).mono ?_
      intro e w2 h
      obtain ⟨z, rfl, hz, hb⟩ := resB_elim h
      have HZ1 := Lib.hid hz
      have HB2 := Lib.hid (HB1.out.trans (hb.mono hz1))
      have HL2 := Lib.hid (rd_mv R_Label_ok HL1.out hb)
      have HP2 := Lib.hid (HP1.out.call hb)
      have hz2 := HB2.out.size
      clear h hz hb q0 q1 q2 q3 q4 HP1
      have q0 := HP2.out.at_ 0 rfl
      have q1 := HP2.out.at_ 1 rfl
      have q2 := HP2.out.at_ 2 rfl
      have q3 := HP2.out.at_ 3 rfl
      have q4 := HP2.out.at_ 4 rfl
      cases z with
      | false =>
        have HN := Lib.hid (show ¬ PairsR L P from fun h => by have := HZ1.out.2 (h.2 k _ HX.out).1; cases this)
        go_wp2
        go_ret
        exact resB_no HN.out HB2.out
      | true =>
      have HM1 := Lib.hid (HZ1.out.1 rfl)
      go_wp2_with fail
      refine (cleared_spec HL2.out).mono ?_
      intro e w3 h
      obtain ⟨z, rfl, hz, hb⟩ := resB_elim h
      have HZ2 := Lib.hid hz
      have HB3 := Lib.hid (HB2.out.trans (hb.mono hz2))
      have HP3 := Lib.hid (HP2.out.call hb)
      have hz3 := HB3.out.size
      clear h hz hb q0 q1 q2 q3 q4 HP2
      have q0 := HP3.out.at_ 0 rfl
      have q1 := HP3.out.at_ 1 rfl
      have q2 := HP3.out.at_ 2 rfl
      have q3 := HP3.out.at_ 3 rfl
      have q4 := HP3.out.at_ 4 rfl
      cases z with
      | false =>
        have HN := Lib.hid (show ¬ PairsR L P from fun h => by have := HZ2.out.2 (h.2 k _ HX.out).2.1; cases this)
        go_wp2
        go_ret
        exact resB_no HN.out HB3.out
      | true =>
      have HM2 := Lib.hid (HZ2.out.1 rfl)
      obtain ⟨z3, hz3e⟩ : ∃ z, LabC.bB x0 x1 x2 x3 = z := ⟨_, rfl⟩
      have HZ3 := Lib.hid hz3e
      clear hz3e
      go_wp2_with fail
      refine (below2_at _ _ _ _ HZ3.out _).mono ?_
      rintro e w4 ⟨rfl, hb⟩
      have HB4 := Lib.hid (HB3.out.trans (hb.mono hz3))
      have HP4 := Lib.hid (HP3.out.call hb)
      have hz4 := HB4.out.size
      clear hb q0 q1 q2 q3 q4 HP3
      have q0 := HP4.out.at_ 0 rfl
      have q1 := HP4.out.at_ 1 rfl
      have q2 := HP4.out.at_ 2 rfl
      have q3 := HP4.out.at_ 3 rfl
      have q4 := HP4.out.at_ 4 rfl
      cases z3 with
      | true =>
        have HN := Lib.hid (show ¬ PairsR L P from fun h => by have := (h.2 k _ HX.out).2.2.1; rw [HZ3.out] at this; cases this)
        go_wp2
        go_ret
        exact resB_no HN.out HB4.out
      | false =>
      obtain ⟨z4, hz4e⟩ : ∃ z, isB x4 1 3 = z := ⟨_, rfl⟩
      have HZ4 := Lib.hid hz4e
      clear hz4e
      go_wp2_with fail
      refine (is_at _ _ _ HZ4.out _).mono ?_
      rintro e w5 ⟨rfl, rfl⟩
      cases z4 with
      | false =>
        have HN := Lib.hid (show ¬ PairsR L P from fun h => by have := (h.2 k _ HX.out).2.2.2.1; rw [HZ4.out] at this; cases this)
        go_wp2
        go_ret
        exact resB_no HN.out HB4.out
      | true =>
      clear q0 q1 q2 q3 q4
      go_wp2
      go_loopw [7] (fun i wr => ∃ j : Nat, j ≤ k ∧ i = .int .i64 j ∧ Hid (∀ (q : Nat) y, q < j → P[q]? = some y → ¬ (y.1 = (x0, x1) ∧ y.2.1 = (x2, x3))) ∧ Below w4.heap.size w4 wr) (fun i _ => k - (intOf i).toNat)
      case atStart => exact ⟨0, Nat.zero_le _, rfl, Lib.hid fun q y h => absurd h (Nat.not_lt_zero _), Below.refl _ _⟩
      case round =>
        obtain ⟨j, hj, rfl, HQ, hB⟩ := hrel
        have HBw := Lib.hid hB
        have HB5 := Lib.hid (HB4.out.trans (hB.mono hz4))
        have HP3 := Lib.hid (HP4.out.call hB)
        have hz5 := hB.size
        clear hB
        by_cases hjl : j < k
        · have hd2 : decide ((j : Int) < (k : Int)) = true := decide_eq_true (by omega)
          obtain ⟨⟨⟨y0, y1⟩, ⟨y2, y3⟩, y4⟩, hy⟩ := el_some (show j < P.length by omega)
          have HY := Lib.hid hy
          obtain ⟨g2, o2, us, hgg, hg2, hu, hr⟩ := (HP.out.below R_Pair_ok HB5.out).at_ hy
          obtain ⟨rfl, rfl⟩ : g = g2 ∧ o = o2 := by cases hgg; exact ⟨rfl, rfl⟩
          obtain rfl := rd_Pair hr
          have d0 : wr.cell? ⟨g, o + j * 5, none⟩ = some (.int .i64 y0) := by simpa [size_PairS, Nat.add_assoc] using hu 0 _ rfl
          have d1 : wr.cell? ⟨g, o + j * 5 + 1, none⟩ = some (.int .i64 y1) := by simpa [size_PairS, Nat.add_assoc] using hu 1 _ rfl
          have d2 : wr.cell? ⟨g, o + j * 5 + 2, none⟩ = some (.int .i64 y2) := by simpa [size_PairS, Nat.add_assoc] using hu 2 _ rfl
          have d3 : wr.cell? ⟨g, o + j * 5 + 3, none⟩ = some (.int .i64 y3) := by simpa [size_PairS, Nat.add_assoc] using hu 3 _ rfl
          have HG2 := Lib.hid (show g < wr.heap.size by omega)
          have hj0 : (0 : Int) ≤ (j : Int) := Int.natCast_nonneg _
          have hj1 : (j : Int) < (P.length : Int) := by omega
          obtain ⟨b1, hb1⟩ : ∃ b, decide (((y0, y1) : Lb) = (x0, x1)) = b := ⟨_, rfl⟩
          obtain ⟨b2, hb2⟩ : ∃ b, decide (((y2, y3) : Lb) = (x2, x3)) = b := ⟨_, rfl⟩
          have hE1 := eql_lab _ _ _ _ _ hb1
          have hE2 := eql_lab _ _ _ _ _ hb2
          have HE := Lib.hid (And.intro hb1 hb2)
          clear hy hu hr hgg hb1 hb2 hg2
          cases b1 with
          | false =>
            have HQ2 := Lib.hid (show ∀ (q : Nat) y, q < j + 1 → P[q]? = some y → ¬ (y.1 = (x0, x1) ∧ y.2.1 = (x2, x3)) from fun q y hq hy => by
              by_cases e : q = j
              · subst e; rw [HY.out] at hy; obtain rfl := Option.some.inj hy
                exact fun h => of_decide_eq_false HE.out.1 h.1
              · exact HQ.out q y (by omega) hy)
            go_wp2_with fail
            refine wp_region_held_drew (S := (fun V => Below (wr).heap.size (wr) V)) (by kernel_rfl) ((Below.refl _ _).drew) (fun hHeld => ?_)
            refine tk 0 hHeld ?_
            refine tk 1 hHeld ?_
            refine tk 2 hHeld ?_
            refine tk 3 hHeld ?_
            refine tk 4 hHeld ?_ (hy := fun w hSw => by (try dsimp only at hSw); have k0 := (hSw.cell (p := ⟨g, o + j * 5, none⟩) HG2.out).trans d0; have k1 := (hSw.cell (p := ⟨g, o + j * 5 + 1, none⟩) HG2.out).trans d1; clear hSw; go_simp; try with_reducible rfl)
            refine tk 5 hHeld ?_
            refine tk 6 hHeld ?_ (hy := fun w hSw => by (try dsimp only at hSw); have k0 := (hSw.cell (p := ⟨wo.heap.size, 0, none⟩) HP3.out.lt).trans (HP3.out.at_ 0 rfl); have k1 := (hSw.cell (p := ⟨wo.heap.size, 1, none⟩) HP3.out.lt).trans (HP3.out.at_ 1 rfl); clear hSw; go_simp; try with_reducible rfl)
            refine tk 7 hHeld ?_
            refine tk 8 hHeld ?_
            refine tn 9 hHeld ?_
            refine tn 10 hHeld ?_
            refine tn 11 hHeld ?_
            refine tn 12 hHeld ?_
            refine tn 13 hHeld ?_
            refine tn 14 hHeld ?_
            refine tn 15 hHeld ?_
            refine tn 16 hHeld ?_
            refine tk 17 hHeld ?_
            refine rd0 ?_
            have HF := Lib.hid hHeld
            clear hHeld
            have HB6 := Lib.hid (HBw.out.trans (HF.out.mono hz5))
            clear HF
            go_wp2
            go_roundw
            case rel => exact ⟨j + 1, by omega, by go_num, HQ2, HB6.out⟩
            case measure => simp [intOf]; omega
          | true =>
          cases b2 with
          | false =>
            have HQ2 := Lib.hid (show ∀ (q : Nat) y, q < j + 1 → P[q]? = some y → ¬ (y.1 = (x0, x1) ∧ y.2.1 = (x2, x3)) from fun q y hq hy => by
              by_cases e : q = j
              · subst e; rw [HY.out] at hy; obtain rfl := Option.some.inj hy
                exact fun h => of_decide_eq_false HE.out.2 h.2
              · exact HQ.out q y (by omega) hy)
            go_wp2_with fail
            refine wp_region_held_drew (S := (fun V => Below (wr).heap.size (wr) V)) (by kernel_rfl) ((Below.refl _ _).drew) (fun hHeld => ?_)
            refine tk 0 hHeld ?_
            refine tk 1 hHeld ?_
            refine tk 2 hHeld ?_
            refine tk 3 hHeld ?_
            refine tk 4 hHeld ?_ (hy := fun w hSw => by (try dsimp only at hSw); have k0 := (hSw.cell (p := ⟨g, o + j * 5, none⟩) HG2.out).trans d0; have k1 := (hSw.cell (p := ⟨g, o + j * 5 + 1, none⟩) HG2.out).trans d1; clear hSw; go_simp; try with_reducible rfl)
            refine tk 5 hHeld ?_
            refine tk 6 hHeld ?_ (hy := fun w hSw => by (try dsimp only at hSw); have k0 := (hSw.cell (p := ⟨wo.heap.size, 0, none⟩) HP3.out.lt).trans (HP3.out.at_ 0 rfl); have k1 := (hSw.cell (p := ⟨wo.heap.size, 1, none⟩) HP3.out.lt).trans (HP3.out.at_ 1 rfl); clear hSw; go_simp; try with_reducible rfl)
            refine tk 7 hHeld ?_
            refine tk 8 hHeld ?_
            refine tk 9 hHeld ?_
            refine tk 10 hHeld ?_
            refine tk 11 hHeld ?_
            refine tk 12 hHeld ?_
            refine tk 13 hHeld ?_ (hy := fun w hSw => by (try dsimp only at hSw); have k0 := (hSw.cell (p := ⟨g, o + j * 5 + 2, none⟩) HG2.out).trans d2; have k1 := (hSw.cell (p := ⟨g, o + j * 5 + 3, none⟩) HG2.out).trans d3; clear hSw; go_simp; try with_reducible rfl)
            refine tk 14 hHeld ?_
            refine tk 15 hHeld ?_ (hy := fun w hSw => by (try dsimp only at hSw); have k0 := (hSw.cell (p := ⟨wo.heap.size, 2, none⟩) HP3.out.lt).trans (HP3.out.at_ 2 rfl); have k1 := (hSw.cell (p := ⟨wo.heap.size, 3, none⟩) HP3.out.lt).trans (HP3.out.at_ 3 rfl); clear hSw; go_simp; try with_reducible rfl)
            refine tk 16 hHeld ?_
            refine tk 17 hHeld ?_
            refine rd0 ?_
            have HF := Lib.hid hHeld
            clear hHeld
            have HB6 := Lib.hid (HBw.out.trans (HF.out.mono hz5))
            clear HF
            go_wp2
            go_roundw
            case rel => exact ⟨j + 1, by omega, by go_num, HQ2, HB6.out⟩
            case measure => simp [intOf]; omega
          | true =>
            have HN := Lib.hid (show ¬ PairsR L P from fun h => (h.2 k _ HX.out).2.2.2.2 j _ hjl HY.out ⟨of_decide_eq_true HE.out.1, of_decide_eq_true HE.out.2⟩)
            go_wp2_with fail
            refine wp_region_held_drew (S := (fun V => Below (wr).heap.size (wr) V)) (by kernel_rfl) ((Below.refl _ _).drew) (fun hHeld => ?_)
            refine tk 0 hHeld ?_
            refine tk 1 hHeld ?_
            refine tk 2 hHeld ?_
            refine tk 3 hHeld ?_
            refine tk 4 hHeld ?_ (hy := fun w hSw => by (try dsimp only at hSw); have k0 := (hSw.cell (p := ⟨g, o + j * 5, none⟩) HG2.out).trans d0; have k1 := (hSw.cell (p := ⟨g, o + j * 5 + 1, none⟩) HG2.out).trans d1; clear hSw; go_simp; try with_reducible rfl)
            refine tk 5 hHeld ?_
            refine tk 6 hHeld ?_ (hy := fun w hSw => by (try dsimp only at hSw); have k0 := (hSw.cell (p := ⟨wo.heap.size, 0, none⟩) HP3.out.lt).trans (HP3.out.at_ 0 rfl); have k1 := (hSw.cell (p := ⟨wo.heap.size, 1, none⟩) HP3.out.lt).trans (HP3.out.at_ 1 rfl); clear hSw; go_simp; try with_reducible rfl)
            refine tk 7 hHeld ?_
            refine tk 8 hHeld ?_
            refine tk 9 hHeld ?_
            refine tk 10 hHeld ?_
            refine tk 11 hHeld ?_
            refine tk 12 hHeld ?_
            refine tk 13 hHeld ?_ (hy := fun w hSw => by (try dsimp only at hSw); have k0 := (hSw.cell (p := ⟨g, o + j * 5 + 2, none⟩) HG2.out).trans d2; have k1 := (hSw.cell (p := ⟨g, o + j * 5 + 3, none⟩) HG2.out).trans d3; clear hSw; go_simp; try with_reducible rfl)
            refine tk 14 hHeld ?_
            refine tk 15 hHeld ?_ (hy := fun w hSw => by (try dsimp only at hSw); have k0 := (hSw.cell (p := ⟨wo.heap.size, 2, none⟩) HP3.out.lt).trans (HP3.out.at_ 2 rfl); have k1 := (hSw.cell (p := ⟨wo.heap.size, 3, none⟩) HP3.out.lt).trans (HP3.out.at_ 3 rfl); clear hSw; go_simp; try with_reducible rfl)
            refine tk 16 hHeld ?_
            refine tk 17 hHeld ?_
            refine rd0 ?_
            have HF := Lib.hid hHeld
            clear hHeld
            have HB6 := Lib.hid (HB5.out.trans (HF.out.mono (by omega)))
            clear HF
            go_wp2
            go_ret
            exact resB_no HN.out HB6.out
        · have hd2 : decide ((j : Int) < (k : Int)) = false := decide_eq_false (by omega)
          have HA2 := Lib.hid (show ∀ (j : Nat) x, j < k + 1 → P[j]? = some x → okP L P j x from fun q y hq hy => by
            by_cases e : q = k
            · subst e; rw [HX.out] at hy; obtain rfl := Option.some.inj hy
              exact ⟨HM1.out, HM2.out, HZ3.out, HZ4.out, fun r z hr hz => HQ.out r z (by omega) hz⟩
            · exact HA.out q y (by omega) hy)
          go_wp2
          go_roundw
          case rel => exact ⟨k + 1, by omega, by go_num, HA2, HB5.out⟩
          case measure => simp [intOf]; omega
    · have hdl : decide ((k : Int) < (P.length : Int)) = false := decide_eq_false (by omega)
      have HY := Lib.hid (show PairsR L P from ⟨h4, fun i x hx => HA.out i x (by have := el_lt hx; omega) hx⟩)
      clear hB
      go_wp2
      go_ret
      exact resB_yes HY.out HB.out
end Go.Proofs.YtelhmacfljffhaaGreat.RepC
end
section
namespace Go.Proofs.YtelhmacfljffhaaGreat.RepC
open Go.RowKit RowC ValC SpanC KeptC CfC
set_option linter.unusedVariables false
set_option linter.unusedSimpArgs false
theorem ord_at {l s : Int} (h : LabC.rP l s) (w : World) : Calls Tryz.prog 74 #[.agg #[.int .i64 l, .int .i64 s]] w fun e w' => e = .returned (.int .i64 (8 * l + s)) ∧ Below w.heap.size w w' := by
  obtain ⟨h1, h2, h3, h4⟩ := h
  have e1 : IntKind.i64.wrap (8 * l) = 8 * l := IntWalk.i64_in _ (by omega)
  have e2 : IntKind.i64.wrap (8 * l + s) = 8 * l + s := IntWalk.i64_in _ (by omega)
  go_enter Tryz.func74, Tryz.ntmps74
  go_wp2
  go_ret
  exact ⟨by first | rfl | simp [e1, e2], (Below.refl _ _).alloc (Nat.le_refl _) _⟩
theorem ltB_ord {a b : Lb} (ha : LabC.rP a.1 a.2) (hb : LabC.rP b.1 b.2) : ltB a b ↔ ¬ (8 * a.1 + a.2 ≥ 8 * b.1 + b.2) := by
  obtain ⟨h1, h2, h3, h4⟩ := ha
  obtain ⟨g1, g2, g3, g4⟩ := hb
  unfold ltB
  omega
set_option maxRecDepth 100000 in
set_option maxHeartbeats 3200000 in
theorem quotas_spec {L : List D_Label} {Q : List D_Quota} {la qa : Option Addr} {lc qc : Nat} {W : World} (hLR : ∀ a ∈ L, LabC.rP a.1 a.2) (hLS : L.Pairwise ltB) (hL8 : L.length ≤ 8) (hL : RdSl R_Label W W.heap.size L la lc) (hQ : RdSl R_Quota W W.heap.size Q qa qc) :
    Calls Tryz.prog 70 #[.slice la L.length lc, .slice qa Q.length qc] W (ResB (QuotasR L Q) W) := by
  have hn : Q.length ≤ 9223372036854775807 := by have h1 := hQ.1; have h2 := hQ.2.1; unfold maxLen at h2; omega
  have HL := Lib.hid hL
  have HQ := Lib.hid hQ
  have HLR := Lib.hid hLR
  have HLS := Lib.hid (And.intro hLS hL8)
  clear hL hQ hLR hLS hL8
  by_cases h8 : Q.length ≤ 8
  rotate_left
  · have hd : decide ((Q.length : Int) > 8) = true := decide_eq_true (by omega)
    have hd' : decide (8 < Q.length) = true := decide_eq_true (by omega)
    have HN := Lib.hid (show ¬ QuotasR L Q from fun h => h8 (Nat.le_trans (quotas_len HLS.out.1 h) HLS.out.2))
    go_enter Tryz.func70, Tryz.ntmps70
    go_wp2
    go_ret
    exact resB_no HN.out (Below.refl _ _)
  have hd : decide ((Q.length : Int) > 8) = false := decide_eq_false (by omega)
  have hd' : decide (8 < Q.length) = false := decide_eq_false (by omega)
  go_enter Tryz.func70, Tryz.ntmps70
  go_wp2
  go_loopw [5] (fun i wr => ∃ k : Nat, k ≤ Q.length ∧ i = .int .i64 k ∧ Hid (∀ (j : Nat) x, j < k → Q[j]? = some x → okQ L Q j x) ∧ Below W.heap.size W wr) (fun i _ => Q.length - (intOf i).toNat)
  case atStart => exact ⟨0, Nat.zero_le _, rfl, Lib.hid fun j x h => absurd h (Nat.not_lt_zero _), Below.refl _ _⟩
  case round =>
    obtain ⟨k, hk, rfl, HA, hB⟩ := hrel
    have HB := Lib.hid hB
    have hsz := hB.size
    by_cases hlt : k < Q.length
    · have hdl : decide ((k : Int) < (Q.length : Int)) = true := decide_eq_true (by omega)
      obtain ⟨⟨⟨x0, x1⟩, x2⟩, hx⟩ := el_some hlt
      have HX := Lib.hid hx
      obtain ⟨g, o, us, rfl, hg, hu, hr⟩ := (HQ.out.below R_Quota_ok hB).at_ hx
      obtain rfl := rd_Quota hr
      have e0 : wr.cell? ⟨g, o + k * 3, none⟩ = some (.int .i64 x0) := by simpa [size_QuotaS, Nat.add_assoc] using hu 0 _ rfl
      have e1 : wr.cell? ⟨g, o + k * 3 + 1, none⟩ = some (.int .i64 x1) := by simpa [size_QuotaS, Nat.add_assoc] using hu 1 _ rfl
      have e2 : wr.cell? ⟨g, o + k * 3 + 2, none⟩ = some (.int .i64 x2) := by simpa [size_QuotaS, Nat.add_assoc] using hu 2 _ rfl
      have HG := Lib.hid (show g < wr.heap.size by omega)
      have hi0 : (0 : Int) ≤ (k : Int) := Int.natCast_nonneg _
      have hi1 : (k : Int) < (Q.length : Int) := by omega
      have HL1 := Lib.hid (rd_mv R_Label_ok HL.out HB.out)
      clear hB hx hu hr
      by_cases hm : (x0, x1) ∈ L
      rotate_left
      · have HM := Lib.hid hm
        have HN := Lib.hid (show ¬ QuotasR L Q from fun h => HM.out (h k _ HX.out).1)
        clear hm
        go_wp2_with fail
        refine wp_region_held_drew (S := (fun V => Below (wr).heap.size (wr) V)) (by kernel_rfl) ((Below.refl _ _).drew) (fun hHeld => ?_)
        refine tk 0 hHeld ?_
        refine tk 1 hHeld ?_
        refine tk 2 hHeld ?_
        refine tk 3 hHeld ?_
        refine tk 4 hHeld ?_
        refine tk 5 hHeld ?_ (hy := fun w hSw => by (try dsimp only at hSw); have k0 := (hSw.cell (p := ⟨g, o + k * 3, none⟩) HG.out).trans e0; have k1 := (hSw.cell (p := ⟨g, o + k * 3 + 1, none⟩) HG.out).trans e1; clear hSw; go_simp; try with_reducible rfl)
        refine rd1 6 (fun K hK => ?_)
        go_simp
        go_at_call 29
        refine (cleared_spec (rd_mv R_Label_ok HL1.out hHeld)).mono ?_
        intro e w2 h
        obtain ⟨z, rfl, hz, hb⟩ := resB_elim h
        obtain rfl : z = false := Bool.eq_false_iff.2 fun h => HM.out (hz.1 h)
        clear h hz
        refine hK.out _ _ (hHeld.trans (hb.mono hHeld.size)) (fun hHeld => ?_)
        clear hK K hb
        refine tk 7 hHeld ?_
        refine tk 8 hHeld ?_
        refine tn 9 hHeld ?_
        refine tn 10 hHeld ?_
        refine tn 11 hHeld ?_
        refine tn 12 hHeld ?_
        refine tn 13 hHeld ?_
        refine tn 14 hHeld ?_
        refine tn 15 hHeld ?_
        refine tk 16 hHeld ?_
        refine tk 17 hHeld ?_
        refine tn 18 hHeld ?_
        refine tn 19 hHeld ?_
        refine tn 20 hHeld ?_
        refine tn 21 hHeld ?_
        refine tn 22 hHeld ?_
        refine tn 23 hHeld ?_
        refine tn 24 hHeld ?_
        refine tn 25 hHeld ?_
        refine tn 26 hHeld ?_
        refine tn 27 hHeld ?_
        refine tn 28 hHeld ?_
        refine tn 29 hHeld ?_
        refine tn 30 hHeld ?_
        refine tn 31 hHeld ?_
        refine tn 32 hHeld ?_
        refine tn 33 hHeld ?_
        refine tn 34 hHeld ?_
        refine tn 35 hHeld ?_
        refine tk 36 hHeld ?_
        refine rd0 ?_
        have HF := Lib.hid hHeld
        clear hHeld
        have HB2 := Lib.hid (HB.out.trans (HF.out.mono hsz))
        clear HF
        go_wp2
        go_ret
        exact resB_no HN.out HB2.out
      have HM := Lib.hid hm
      have HOx := Lib.hid (HLR.out _ hm)
      clear hm
      obtain ⟨zi, hzi⟩ : ∃ z, isB x2 1 9 = z := ⟨_, rfl⟩
      have HI := Lib.hid hzi
      clear hzi
      cases zi with
      | false =>
        have HN := Lib.hid (show ¬ QuotasR L Q from fun h => by have h2 : isB x2 1 9 = true := (h k _ HX.out).2.1; rw [HI.out] at h2; cases h2)
        go_wp2_with fail
        refine wp_region_held_drew (S := (fun V => Below (wr).heap.size (wr) V)) (by kernel_rfl) ((Below.refl _ _).drew) (fun hHeld => ?_)
        refine tk 0 hHeld ?_
        refine tk 1 hHeld ?_
        refine tk 2 hHeld ?_
        refine tk 3 hHeld ?_
        refine tk 4 hHeld ?_
        refine tk 5 hHeld ?_ (hy := fun w hSw => by (try dsimp only at hSw); have k0 := (hSw.cell (p := ⟨g, o + k * 3, none⟩) HG.out).trans e0; have k1 := (hSw.cell (p := ⟨g, o + k * 3 + 1, none⟩) HG.out).trans e1; clear hSw; go_simp; try with_reducible rfl)
        refine rd1 6 (fun K hK => ?_)
        go_simp
        go_at_call 29
        refine (cleared_spec (rd_mv R_Label_ok HL1.out hHeld)).mono ?_
        intro e w2 h
        obtain ⟨z, rfl, hz, hb⟩ := resB_elim h
        obtain rfl : z = true := hz.2 HM.out
        clear h hz
        refine hK.out _ _ (hHeld.trans (hb.mono hHeld.size)) (fun hHeld => ?_)
        clear hK K hb
        refine tk 7 hHeld ?_
        refine tk 8 hHeld ?_
        refine tk 9 hHeld ?_
        refine tk 10 hHeld ?_
        refine tk 11 hHeld ?_
        refine tk 12 hHeld ?_
        refine tk 13 hHeld ?_ (hy := fun w hSw => by (try dsimp only at hSw); have k0 := (hSw.cell (p := ⟨g, o + k * 3 + 2, none⟩) HG.out).trans e2; clear hSw; go_simp; try with_reducible rfl)
        refine rd1 14 (fun K hK => ?_)
        go_simp
        go_at_call 67
        refine (is_at _ _ _ HI.out _).mono ?_
        rintro e w3 ⟨rfl, rfl⟩
        have hb := Below.refl w2.heap.size w2
        refine hK.out _ _ (hHeld.trans (hb.mono hHeld.size)) (fun hHeld => ?_)
        clear hK K hb
        refine tk 15 hHeld ?_
        refine tk 16 hHeld ?_
        refine tk 17 hHeld ?_
        refine tn 18 hHeld ?_
        refine tn 19 hHeld ?_
        refine tn 20 hHeld ?_
        refine tn 21 hHeld ?_
        refine tn 22 hHeld ?_
        refine tn 23 hHeld ?_
        refine tn 24 hHeld ?_
        refine tn 25 hHeld ?_
        refine tn 26 hHeld ?_
        refine tn 27 hHeld ?_
        refine tn 28 hHeld ?_
        refine tn 29 hHeld ?_
        refine tn 30 hHeld ?_
        refine tn 31 hHeld ?_
        refine tn 32 hHeld ?_
        refine tn 33 hHeld ?_
        refine tn 34 hHeld ?_
        refine tn 35 hHeld ?_
        refine tk 36 hHeld ?_
        refine rd0 ?_
        have HF := Lib.hid hHeld
        clear hHeld
        have HB2 := Lib.hid (HB.out.trans (HF.out.mono hsz))
        clear HF
        go_wp2
        go_ret
        exact resB_no HN.out HB2.out
      | true =>
      cases k with
      | zero =>
        rw [Nat.zero_mul] at e0 e1 e2
        simp only [Nat.add_zero] at e0 e1 e2
        have HA2 := Lib.hid (show ∀ (j : Nat) x, j < 0 + 1 → Q[j]? = some x → okQ L Q j x from fun q y hq hy => by
          obtain rfl : q = 0 := by omega
          rw [HX.out] at hy; obtain rfl := Option.some.inj hy
          exact ⟨HM.out, HI.out, fun h => absurd h (Nat.lt_irrefl _)⟩)
        go_wp2_with fail
        refine wp_region_held_drew (S := (fun V => Below (wr).heap.size (wr) V)) (by kernel_rfl) ((Below.refl _ _).drew) (fun hHeld => ?_)
        refine tk 0 hHeld ?_
        refine tk 1 hHeld ?_
        refine tk 2 hHeld ?_
        refine tk 3 hHeld ?_
        refine tk 4 hHeld ?_
        refine tk 5 hHeld ?_ (hy := fun w hSw => by (try dsimp only at hSw); have k0 := (hSw.cell (p := ⟨g, o, none⟩) HG.out).trans e0; have k1 := (hSw.cell (p := ⟨g, o + 1, none⟩) HG.out).trans e1; clear hSw; go_simp; try with_reducible rfl)
        refine rd1 6 (fun K hK => ?_)
        go_simp
        go_at_call 29
        refine (cleared_spec (rd_mv R_Label_ok HL1.out hHeld)).mono ?_
        intro e w2 h
        obtain ⟨z, rfl, hz, hb⟩ := resB_elim h
        obtain rfl : z = true := hz.2 HM.out
        clear h hz
        refine hK.out _ _ (hHeld.trans (hb.mono hHeld.size)) (fun hHeld => ?_)
        clear hK K hb
        refine tk 7 hHeld ?_
        refine tk 8 hHeld ?_
        refine tk 9 hHeld ?_
        refine tk 10 hHeld ?_
        refine tk 11 hHeld ?_
        refine tk 12 hHeld ?_
        refine tk 13 hHeld ?_ (hy := fun w hSw => by (try dsimp only at hSw); have k0 := (hSw.cell (p := ⟨g, o + 2, none⟩) HG.out).trans e2; clear hSw; go_simp; try with_reducible rfl)
        refine rd1 14 (fun K hK => ?_)
        go_simp
        go_at_call 67
        refine (is_at _ _ _ HI.out _).mono ?_
        rintro e w3 ⟨rfl, rfl⟩
        have hb := Below.refl w2.heap.size w2
        refine hK.out _ _ (hHeld.trans (hb.mono hHeld.size)) (fun hHeld => ?_)
        clear hK K hb
        refine tk 15 hHeld ?_
        refine tk 16 hHeld ?_
        refine tk 17 hHeld ?_
        refine tk 18 hHeld ?_
        refine tk 19 hHeld ?_
        refine tk 20 hHeld ?_
        refine tn 21 hHeld ?_
        refine tn 22 hHeld ?_
        refine tn 23 hHeld ?_
        refine tn 24 hHeld ?_
        refine tn 25 hHeld ?_
        refine tn 26 hHeld ?_
        refine tn 27 hHeld ?_
        refine tn 28 hHeld ?_
        refine tn 29 hHeld ?_
        refine tn 30 hHeld ?_
        refine tn 31 hHeld ?_
        refine tn 32 hHeld ?_
        refine tn 33 hHeld ?_
        refine tn 34 hHeld ?_
        refine tk 35 hHeld ?_
        refine tk 36 hHeld ?_
        refine rd0 ?_
        have HF := Lib.hid hHeld
        clear hHeld
        have HB2 := Lib.hid (HB.out.trans (HF.out.mono hsz))
        clear HF
        go_wp2
        go_roundw
        case rel => exact ⟨0 + 1, by omega, by go_num, HA2, HB2.out⟩
        case measure => simp [intOf]; omega
      | succ m =>
        obtain ⟨⟨⟨y0, y1⟩, y2⟩, hy⟩ := el_some (show m < Q.length by omega)
        have HY := Lib.hid hy
        have HMy := Lib.hid (HA.out m _ (Nat.lt_succ_self m) hy).1
        have HOy := Lib.hid (HLR.out _ HMy.out)
        obtain ⟨g2, o2, us, hgg, hg2, hu, hr⟩ := (HQ.out.below R_Quota_ok HB.out).at_ hy
        obtain ⟨rfl, rfl⟩ : g = g2 ∧ o = o2 := by cases hgg; exact ⟨rfl, rfl⟩
        obtain rfl := rd_Quota hr
        have d0 : wr.cell? ⟨g, o + m * 3, none⟩ = some (.int .i64 y0) := by simpa [size_QuotaS, Nat.add_assoc] using hu 0 _ rfl
        have d1 : wr.cell? ⟨g, o + m * 3 + 1, none⟩ = some (.int .i64 y1) := by simpa [size_QuotaS, Nat.add_assoc] using hu 1 _ rfl
        have hj0 : (0 : Int) ≤ (m : Int) := Int.natCast_nonneg _
        have hj1 : (m : Int) < (Q.length : Int) := by omega
        have hgt : decide ((((m + 1 : Nat) : Int)) > 0) = true := decide_eq_true (by omega)
        have hgt2 : decide (0 < m + 1) = true := decide_eq_true (by omega)
        have hsub : IntKind.i64.wrap (((m + 1 : Nat) : Int) - 1) = (m : Int) := by rw [show ((m + 1 : Nat) : Int) - 1 = (m : Int) by omega]; exact IntWalk.i64_in _ (by omega)
        have hsub2 : IntKind.i64.wrap (m : Int) = (m : Int) := IntWalk.i64_in _ (by omega)
        have hi0' : (0 : Int) ≤ (m : Int) + 1 := by omega
        have hi1' : (m : Int) + 1 < (Q.length : Int) := by omega
        have hgt3 : decide (0 < (m : Int) + 1) = true := decide_eq_true (by omega)
        have hsub3 : IntKind.i64.wrap ((m : Int) + 1 - 1) = (m : Int) := by rw [show (m : Int) + 1 - 1 = (m : Int) by omega]; exact IntWalk.i64_in _ (by omega)
        clear hy hu hr hgg hg2
        by_cases hlb : ltB (y0, y1) (x0, x1)
        · have hge : decide (8 * y0 + y1 ≥ 8 * x0 + x1) = false := decide_eq_false ((ltB_ord HOy.out HOx.out).1 hlb)
          have hge2 : decide (8 * x0 + x1 ≤ 8 * y0 + y1) = false := hge
          have HA2 := Lib.hid (show ∀ (j : Nat) x, j < m + 1 + 1 → Q[j]? = some x → okQ L Q j x from fun q y hq hy => by
            by_cases e : q = m + 1
            · subst e; rw [HX.out] at hy; obtain rfl := Option.some.inj hy
              refine ⟨HM.out, HI.out, fun _ z hz => ?_⟩
              rw [Nat.add_sub_cancel, HY.out] at hz; obtain rfl := Option.some.inj hz
              exact hlb
            · exact HA.out q y (by omega) hy)
          clear hlb
          go_wp2_with fail
          refine wp_region_held_drew (S := (fun V => Below (wr).heap.size (wr) V)) (by kernel_rfl) ((Below.refl _ _).drew) (fun hHeld => ?_)
          refine tk 0 hHeld ?_
          refine tk 1 hHeld ?_
          refine tk 2 hHeld ?_
          refine tk 3 hHeld ?_
          refine tk 4 hHeld ?_
          refine tk 5 hHeld ?_ (hy := fun w hSw => by (try dsimp only at hSw); have k0 := (hSw.cell (p := ⟨g, o + (m + 1) * 3, none⟩) HG.out).trans e0; have k1 := (hSw.cell (p := ⟨g, o + (m + 1) * 3 + 1, none⟩) HG.out).trans e1; clear hSw; go_simp; try with_reducible rfl)
          refine rd1 6 (fun K hK => ?_)
          go_simp
          go_at_call 29
          refine (cleared_spec (rd_mv R_Label_ok HL1.out hHeld)).mono ?_
          intro e w2 h
          obtain ⟨z, rfl, hz, hb⟩ := resB_elim h
          obtain rfl : z = true := hz.2 HM.out
          clear h hz
          refine hK.out _ _ (hHeld.trans (hb.mono hHeld.size)) (fun hHeld => ?_)
          clear hK K hb
          refine tk 7 hHeld ?_
          refine tk 8 hHeld ?_
          refine tk 9 hHeld ?_
          refine tk 10 hHeld ?_
          refine tk 11 hHeld ?_
          refine tk 12 hHeld ?_
          refine tk 13 hHeld ?_ (hy := fun w hSw => by (try dsimp only at hSw); have k0 := (hSw.cell (p := ⟨g, o + (m + 1) * 3 + 2, none⟩) HG.out).trans e2; clear hSw; go_simp; try with_reducible rfl)
          refine rd1 14 (fun K hK => ?_)
          go_simp
          go_at_call 67
          refine (is_at _ _ _ HI.out _).mono ?_
          rintro e w3 ⟨rfl, rfl⟩
          have hb := Below.refl w2.heap.size w2
          refine hK.out _ _ (hHeld.trans (hb.mono hHeld.size)) (fun hHeld => ?_)
          clear hK K hb
          refine tk 15 hHeld ?_
          refine tk 16 hHeld ?_
          refine tk 17 hHeld ?_
          refine tk 18 hHeld ?_
          refine tk 19 hHeld ?_
          refine tk 20 hHeld ?_
          refine tk 21 hHeld ?_
          refine tk 22 hHeld ?_
          refine tk 23 hHeld ?_
          refine tk 24 hHeld ?_
          refine tk 25 hHeld ?_
          refine tk 26 hHeld ?_ (hy := fun w hSw => by (try dsimp only at hSw); have k0 := (hSw.cell (p := ⟨g, o + m * 3, none⟩) HG.out).trans d0; have k1 := (hSw.cell (p := ⟨g, o + m * 3 + 1, none⟩) HG.out).trans d1; clear hSw; go_simp; try with_reducible rfl)
          refine tk 28 hHeld ?_
          refine tk 29 hHeld ?_
          refine tk 30 hHeld ?_
          refine tk 31 hHeld ?_
          refine tk 32 hHeld ?_ (hy := fun w hSw => by (try dsimp only at hSw); have k0 := (hSw.cell (p := ⟨g, o + (m + 1) * 3, none⟩) HG.out).trans e0; have k1 := (hSw.cell (p := ⟨g, o + (m + 1) * 3 + 1, none⟩) HG.out).trans e1; clear hSw; go_simp; try with_reducible rfl)
          refine rd1 27 (fun K hK => ?_)
          go_simp
          go_at_call 74
          refine (ord_at HOy.out _).mono ?_
          rintro e w4 ⟨rfl, hb⟩
          refine hK.out _ _ (hHeld.trans (hb.mono hHeld.size)) (fun hHeld => ?_)
          clear hK K hb
          refine rd1 33 (fun K hK => ?_)
          go_simp
          go_at_call 74
          refine (ord_at HOx.out _).mono ?_
          rintro e w5 ⟨rfl, hb⟩
          refine hK.out _ _ (hHeld.trans (hb.mono hHeld.size)) (fun hHeld => ?_)
          clear hK K hb
          refine tk 34 hHeld ?_
          refine tk 35 hHeld ?_
          refine tk 36 hHeld ?_
          refine rd0 ?_
          have HF := Lib.hid hHeld
          clear hHeld
          have HB2 := Lib.hid (HB.out.trans (HF.out.mono hsz))
          clear HF
          go_wp2
          go_roundw
          case rel => exact ⟨m + 1 + 1, by omega, by go_num, HA2, HB2.out⟩
          case measure => simp [intOf]; omega
        · have hge : decide (8 * y0 + y1 ≥ 8 * x0 + x1) = true := decide_eq_true (Classical.byContradiction fun h => hlb ((ltB_ord HOy.out HOx.out).2 h))
          have hge2 : decide (8 * x0 + x1 ≤ 8 * y0 + y1) = true := hge
          have HN := Lib.hid (show ¬ QuotasR L Q from fun h => hlb ((h (m + 1) _ HX.out).2.2 (by omega) _ (by rw [Nat.add_sub_cancel]; exact HY.out)))
          clear hlb
          go_wp2_with fail
          refine wp_region_held_drew (S := (fun V => Below (wr).heap.size (wr) V)) (by kernel_rfl) ((Below.refl _ _).drew) (fun hHeld => ?_)
          refine tk 0 hHeld ?_
          refine tk 1 hHeld ?_
          refine tk 2 hHeld ?_
          refine tk 3 hHeld ?_
          refine tk 4 hHeld ?_
          refine tk 5 hHeld ?_ (hy := fun w hSw => by (try dsimp only at hSw); have k0 := (hSw.cell (p := ⟨g, o + (m + 1) * 3, none⟩) HG.out).trans e0; have k1 := (hSw.cell (p := ⟨g, o + (m + 1) * 3 + 1, none⟩) HG.out).trans e1; clear hSw; go_simp; try with_reducible rfl)
          refine rd1 6 (fun K hK => ?_)
          go_simp
          go_at_call 29
          refine (cleared_spec (rd_mv R_Label_ok HL1.out hHeld)).mono ?_
          intro e w2 h
          obtain ⟨z, rfl, hz, hb⟩ := resB_elim h
          obtain rfl : z = true := hz.2 HM.out
          clear h hz
          refine hK.out _ _ (hHeld.trans (hb.mono hHeld.size)) (fun hHeld => ?_)
          clear hK K hb
          refine tk 7 hHeld ?_
          refine tk 8 hHeld ?_
          refine tk 9 hHeld ?_
          refine tk 10 hHeld ?_
          refine tk 11 hHeld ?_
          refine tk 12 hHeld ?_
          refine tk 13 hHeld ?_ (hy := fun w hSw => by (try dsimp only at hSw); have k0 := (hSw.cell (p := ⟨g, o + (m + 1) * 3 + 2, none⟩) HG.out).trans e2; clear hSw; go_simp; try with_reducible rfl)
          refine rd1 14 (fun K hK => ?_)
          go_simp
          go_at_call 67
          refine (is_at _ _ _ HI.out _).mono ?_
          rintro e w3 ⟨rfl, rfl⟩
          have hb := Below.refl w2.heap.size w2
          refine hK.out _ _ (hHeld.trans (hb.mono hHeld.size)) (fun hHeld => ?_)
          clear hK K hb
          refine tk 15 hHeld ?_
          refine tk 16 hHeld ?_
          refine tk 17 hHeld ?_
          refine tk 18 hHeld ?_
          refine tk 19 hHeld ?_
          refine tk 20 hHeld ?_
          refine tk 21 hHeld ?_
          refine tk 22 hHeld ?_
          refine tk 23 hHeld ?_
          refine tk 24 hHeld ?_
          refine tk 25 hHeld ?_
          refine tk 26 hHeld ?_ (hy := fun w hSw => by (try dsimp only at hSw); have k0 := (hSw.cell (p := ⟨g, o + m * 3, none⟩) HG.out).trans d0; have k1 := (hSw.cell (p := ⟨g, o + m * 3 + 1, none⟩) HG.out).trans d1; clear hSw; go_simp; try with_reducible rfl)
          refine tk 28 hHeld ?_
          refine tk 29 hHeld ?_
          refine tk 30 hHeld ?_
          refine tk 31 hHeld ?_
          refine tk 32 hHeld ?_ (hy := fun w hSw => by (try dsimp only at hSw); have k0 := (hSw.cell (p := ⟨g, o + (m + 1) * 3, none⟩) HG.out).trans e0; have k1 := (hSw.cell (p := ⟨g, o + (m + 1) * 3 + 1, none⟩) HG.out).trans e1; clear hSw; go_simp; try with_reducible rfl)
          refine rd1 27 (fun K hK => ?_)
          go_simp
          go_at_call 74
          refine (ord_at HOy.out _).mono ?_
          rintro e w4 ⟨rfl, hb⟩
          refine hK.out _ _ (hHeld.trans (hb.mono hHeld.size)) (fun hHeld => ?_)
          clear hK K hb
          refine rd1 33 (fun K hK => ?_)
          go_simp
          go_at_call 74
          refine (ord_at HOx.out _).mono ?_
          rintro e w5 ⟨rfl, hb⟩
          refine hK.out _ _ (hHeld.trans (hb.mono hHeld.size)) (fun hHeld => ?_)
          clear hK K hb
          refine tk 34 hHeld ?_
          refine tk 35 hHeld ?_
          refine tk 36 hHeld ?_
          refine rd0 ?_
          have HF := Lib.hid hHeld
          clear hHeld
          have HB2 := Lib.hid (HB.out.trans (HF.out.mono hsz))
          clear HF
          go_wp2
          go_ret
          exact resB_no HN.out HB2.out
    · have hdl : decide ((k : Int) < (Q.length : Int)) = false := decide_eq_false (by omega)
      have HY := Lib.hid (show QuotasR L Q from fun i x hx => HA.out i x (by have := el_lt hx; omega) hx)
      clear hB
      go_wp2
      go_ret
      exact resB_yes HY.out HB.out
def CfgR (C : List (List D_Label)) (P : List D_Pair) (Q : List D_Quota) (hf : Int) : Prop := ClearR C ∧ isB hf 1 9 = true ∧ (labsOf C).length ≤ 8 ∧ PairsR (labsOf C) P ∧ QuotasR (labsOf C) Q
end Go.Proofs.YtelhmacfljffhaaGreat.RepC
end
section
namespace Go.Proofs.YtelhmacfljffhaaGreat.RepC
open Go.RowKit RowC ValC SpanC KeptC
set_option linter.unusedVariables false
set_option linter.unusedSimpArgs false
def NewB (L : List D_Label) (W : World) (e : Ending) (w' : World) : Prop := ∃ v lo, e = .returned v ∧ W.heap.size ≤ lo ∧ lo ≤ w'.heap.size ∧ BRow w' lo v L ∧ Below W.heap.size W w'
theorem newB_elim {L : List D_Label} {W : World} {e : Ending} {w' : World} (h : NewB L W e w') : ∃ v lo, e = .returned v ∧ W.heap.size ≤ lo ∧ lo ≤ w'.heap.size ∧ BRow w' lo v L ∧ Below W.heap.size W w' := h
set_option maxRecDepth 100000 in
set_option maxHeartbeats 1600000 in
theorem growb_impl {n : Nat} {z : Int} (hz : z = (n : Int)) (hn : n ≤ 1099511627776) {W : World} : Calls Tryz.prog 178 #[.slice none 0 0, .int .i64 z] W (NewB [] W) := by
  subst hz
  by_cases h0 : n = 0
  · subst h0
    go_enter Tryz.func178, Tryz.ntmps178
    go_wp2
    go_ret
    exact ⟨_, W.heap.size, rfl, Nat.le_refl _, Nat.le_refl _, FRow.none_ _ _ _ _ _, Below.refl _ _⟩
  · obtain ⟨c, w', hr, hrow, hb, hle⟩ := BRow.grown (w := W) (n := n) (by omega) hn
    have HR := Lib.hid hr
    have HW := Lib.hid hrow
    have HB := Lib.hid hb
    have hw : IntKind.i64.wrap (n : Int) = (n : Int) := IntWalk.i64_in _ (by omega)
    have hp : decide ((n : Int) > 0) = true := decide_eq_true (by omega)
    have hp2 : decide (0 < n) = true := decide_eq_true (by omega)
    have hm : decide ((n : Int) < 0) = false := decide_eq_false (by omega)
    clear hr hrow hb
    go_enter Tryz.func178, Tryz.ntmps178
    go_wp2_with (at_builtin; refine Lib.wpList_append_run _ rfl (.tmp 20) (.tmp 21) _ _ rfl _ _ rfl rfl _ _ HR.out ?_)
    go_ret
    exact ⟨_, W.heap.size, rfl, Nat.le_refl _, HB.out.size, HW.out, HB.out⟩
theorem flatten_take {C : List (List D_Label)} {k : Nat} {x : List D_Label} (h : C[k]? = some x) : (C.take (k + 1)).flatten = (C.take k).flatten ++ x := by
  rw [List.take_add_one, h]; simp
theorem flatten_take_le (C : List (List D_Label)) (k : Nat) : (C.take k).flatten.length ≤ C.flatten.length := by
  have : C.flatten = (C.take k).flatten ++ (C.drop k).flatten := by rw [← List.flatten_append, List.take_append_drop]
  rw [this, List.length_append]; omega
theorem sizeSL1 : (Sl R_Label).size = 1 := rfl
set_option maxRecDepth 100000 in
set_option maxHeartbeats 3200000 in
theorem concat_labs {C : List (List D_Label)} {ca : Option Addr} {cc : Nat} {W : World} (hn : C.flatten.length ≤ 1073741824) (hC : RdSl (Sl R_Label) W W.heap.size C ca cc) :
    Calls Tryz.prog 142 #[.slice ca C.length cc] W (NewB C.flatten W) := by
  have hcn : C.length ≤ 9223372036854775807 := by have h1 := hC.1; have h2 := hC.2.1; unfold maxLen at h2; omega
  have HC := Lib.hid hC
  have HN := Lib.hid hn
  clear hC hn
  go_enter Tryz.func142, Tryz.ntmps142
  go_wp2
  go_loopw [3, 11] (fun s i wr => ∃ k m : Nat, k ≤ C.length ∧ i = .int .i64 k ∧ s = .int .i64 m ∧ Hid (m = (C.take k).flatten.length) ∧ Below W.heap.size W wr) (fun _ i _ => C.length - (intOf i).toNat)
  case atStart => exact ⟨0, 0, Nat.zero_le _, rfl, rfl, Lib.hid (by simp), Below.refl _ _⟩
  case round =>
    obtain ⟨k, m, hk, rfl, rfl, HM, hB⟩ := hrel
    have HB := Lib.hid hB
    have hsz := hB.size
    have hm := flatten_take_le C k
    rw [← HM.out] at hm
    have hm2 : m ≤ 1073741824 := Nat.le_trans hm HN.out
    clear hm
    by_cases hlt : k < C.length
    · have hdl : decide ((k : Int) < (C.length : Int)) = true := decide_eq_true (by omega)
      obtain ⟨x, hx⟩ := el_some hlt
      have HX := Lib.hid hx
      obtain ⟨g, o, us, rfl, hg, hu, hr⟩ := (HC.out.below (Sl_ok R_Label_ok) hB).at_ hx
      obtain ⟨a1, c1, rfl, k_x⟩ := hr
      have e0 : wr.cell? ⟨g, o + k, none⟩ = some (.slice a1 x.length c1) := by simpa [sizeSL1] using hu 0 _ rfl
      have hi0 : (0 : Int) ≤ (k : Int) := Int.natCast_nonneg _
      have hi1 : (k : Int) < (C.length : Int) := by omega
      have hft := flatten_take hx
      have HM2 := Lib.hid (show m + x.length = (C.take (k + 1)).flatten.length from by rw [hft, List.length_append, HM.out])
      have hle := flatten_take_le C (k + 1)
      rw [← HM2.out] at hle
      have hle2 : m + x.length ≤ 1073741824 := Nat.le_trans hle HN.out
      have hw1 : IntKind.i64.wrap ((m : Int) + (x.length : Int)) = (m : Int) + (x.length : Int) := IntWalk.i64_in _ (by omega)
      have hd1 : decide ((m : Int) + (x.length : Int) < 0) = false := decide_eq_false (by omega)
      clear hB hx hu k_x hft hle
      go_wp2
      go_roundw
      case rel => exact ⟨k + 1, m + x.length, by omega, by go_num, by go_num, HM2, HB.out⟩
      case measure => simp [intOf]; omega
    · have hdl : decide ((k : Int) < (C.length : Int)) = false := decide_eq_false (by omega)
      have HT := Lib.hid (show C.take k = C from List.take_of_length_le (by omega))
      clear hB
      go_wp2_with fail
      refine (growb_impl (n := m) rfl (by omega)).mono ?_
      intro e w1 h
      obtain ⟨v, lo, rfl, hlo, hlw, hrow, hb⟩ := newB_elim h
      have HB1 := Lib.hid (HB.out.trans (hb.mono hsz))
      have hz1 := HB1.out.size
      have HV := Lib.hid hrow
      have hlo0 : W.heap.size ≤ lo := by omega
      clear h hrow hb
      go_wp2
      go_loopw [6, 27] (fun v i wr => ∃ k lo : Nat, k ≤ C.length ∧ i = .int .i64 k ∧ W.heap.size ≤ lo ∧ lo ≤ wr.heap.size ∧ Hid (BRow wr lo v (C.take k).flatten) ∧ Below W.heap.size W wr) (fun _ i _ => C.length - (intOf i).toNat)
      case atStart => exact ⟨0, lo, Nat.zero_le _, rfl, hlo0, hlw, Lib.hid (by simpa using HV.out), HB1.out⟩
      case round =>
        obtain ⟨k, lo, hk, rfl, hl1, hl2, HV, hB⟩ := hrel
        have HB := Lib.hid hB
        have hsz := hB.size
        by_cases hlt : k < C.length
        · have hdl : decide ((k : Int) < (C.length : Int)) = true := decide_eq_true (by omega)
          obtain ⟨x, hx⟩ := el_some hlt
          obtain ⟨g, o, us, rfl, hg, hu, hr⟩ := (HC.out.below (Sl_ok R_Label_ok) hB).at_ hx
          obtain ⟨a1, c1, rfl, k_x⟩ := hr
          have e0 : wr.cell? ⟨g, o + k, none⟩ = some (.slice a1 x.length c1) := by simpa [sizeSL1] using hu 0 _ rfl
          have hi0 : (0 : Int) ≤ (k : Int) := Int.natCast_nonneg _
          have hi1 : (k : Int) < (C.length : Int) := by omega
          have hft := flatten_take hx
          have hle := flatten_take_le C (k + 1)
          rw [hft, List.length_append] at hle
          have hle2 := Nat.le_trans hle HN.out
          obtain ⟨va, vc, rfl⟩ := HV.out.isSlice
          obtain ⟨a', c', w2, hrn, hrow2, hb2⟩ := BRow.more HV.out (k_x.more R_Label_ok hsz) hl2 (by omega)
          have HR := Lib.hid hrn
          have HW2 := Lib.hid (show BRow w2 lo _ (C.take (k + 1)).flatten from by rw [hft]; exact hrow2)
          have HB2 := Lib.hid (HB.out.trans (hb2.mono hl1))
          have hl3 := Nat.le_trans hl2 hb2.size
          clear hrn hrow2 hb2 hB hx hu k_x hft hle hle2
          go_wp2_with (at_builtin; refine wpList_app rfl (.tmp 31) (.tmp 32) 72 rfl rfl rfl HR.out ?_)
          go_roundw
          case rel => exact ⟨k + 1, lo, by omega, by go_num, hl1, hl3, Lib.hid (by simpa using HW2.out), HB2.out⟩
          case measure => simp [intOf]; omega
        · have hdl : decide ((k : Int) < (C.length : Int)) = false := decide_eq_false (by omega)
          have HT := Lib.hid (show C.take k = C from List.take_of_length_le (by omega))
          have HW2 := Lib.hid HV.out
          clear hB
          go_wp2
          go_ret
          exact ⟨_, lo, rfl, hl1, hl2, by have := HW2.out; rw [HT.out] at this; exact this, HB.out⟩
end Go.Proofs.YtelhmacfljffhaaGreat.RepC
end
section
namespace Go.Proofs.YtelhmacfljffhaaGreat.SortC
open Go.Shelf
def Tryz.cmpI64_ren : Go.Shelf.Ren := ⟨fun | 5 => 179 | 7 => 197 | n => n, fun | 22 => 2 | 3 => 3 | 4 => 4 | n => n, fun | n => n⟩
theorem Tryz.cmpI64 : Go.Proofs.SlLaysC2.n5 Tryz.prog Tryz.cmpI64_ren := {
  mixed := by kernel_rfl
  f5 := ⟨Tryz.f179.name, by decide, Tryz.func179.trans (congrArg some (by kernel_rfl))⟩
  f7 := ⟨Tryz.f197.name, by decide, Tryz.func197.trans (congrArg some (by kernel_rfl))⟩
  t3 := Tryz.underlying3
  a3 := Tryz.isAgg3
  z3 := Tryz.sizeOf3
  v3 := Tryz.zeroValue3
  t4 := Tryz.underlying4
  a4 := Tryz.isAgg4
  z4 := Tryz.sizeOf4
  v4 := Tryz.zeroValue4
  t22 := Tryz.underlying2
  a22 := Tryz.isAgg2
  z22 := Tryz.sizeOf2
  v22 := Tryz.zeroValue2 }
end Go.Proofs.YtelhmacfljffhaaGreat.SortC
end
section
namespace Go.Proofs.YtelhmacfljffhaaGreat.SortC
open Go.Shelf Go.RowKit RepC RowC ValC
set_option linter.unusedVariables false
set_option linter.unusedSimpArgs false
theorem cmp64 (x y : Int) (w : World) : Calls Tryz.prog 179 #[.int .i64 x, .int .i64 y] w fun e w' => e = .returned (.int .i64 (Lib.compareInt x y)) ∧ w' = w := AnyG.cmp_Compare_int Tryz.cmpI64 x y w
def orI (l : List Int) : Int := (l.find? (· != 0)).getD 0
set_option maxRecDepth 100000 in
set_option maxHeartbeats 1600000 in
theorem or2_v (g : Nat) (r0 r1 : Int) (w : World) (h : Blk w g 3 #[.int .i64 r0, .int .i64 r1]) :
    Calls Tryz.prog 155 #[.slice (some ⟨g, 0, none⟩) 2 2] w fun e w' => e = .returned (.int .i64 (orI [r0, r1])) ∧ w' = w := by
  have HB := Lib.hid h
  clear h
  have c0 := HB.out.at_ 0 rfl
  have c1 := HB.out.at_ 1 rfl
  go_enter Tryz.func155, Tryz.ntmps155
  go_wp2
  go_loopw [8] (fun i wr => ∃ k : Nat, k ≤ 2 ∧ i = .int .i64 k ∧ wr = w ∧ Hid (∀ j, j < k → [r0, r1].getD j 0 = 0)) (fun i _ => 2 - (intOf i).toNat)
  case atStart => exact ⟨0, by omega, rfl, rfl, Lib.hid fun j h => absurd h (Nat.not_lt_zero _)⟩
  case round =>
    obtain ⟨k, hk, rfl, rfl, HZ⟩ := hrel
    by_cases hk4 : k = 2
    · subst hk4
      have HE := Lib.hid (show orI [r0, r1] = 0 from by
        have e0 := HZ.out 0 (by omega); have e1 := HZ.out 1 (by omega)
        simp at e0 e1; subst e0 e1; rfl)
      go_wp2
      go_ret
      exact ⟨by rw [HE.out]; rfl, rfl⟩
    · obtain ⟨r, hr⟩ : ∃ r, [r0, r1].getD k 0 = r := ⟨_, rfl⟩
      have hc : wr.cell? ⟨g, k, none⟩ = some (.int .i64 r) := by
        have : k = 0 ∨ k = 1 := by omega
        rcases this with rfl | rfl <;> (subst hr; assumption)
      have HRk := Lib.hid hr
      have hi0 : (0 : Int) ≤ (k : Int) := Int.natCast_nonneg _
      have hi1 : (k : Int) < 2 := by omega
      have hd : decide ((k : Int) < 2) = true := decide_eq_true hi1
      clear hr c0 c1
      by_cases h0 : r = 0
      · subst h0
        have HZ2 := Lib.hid (show ∀ j, j < k + 1 → [r0, r1].getD j 0 = 0 from fun j hj => by
          by_cases e : j = k
          · rw [e]; exact HRk.out
          · exact HZ.out j (by omega))
        go_wp2
        go_roundw
        case rel => exact ⟨k + 1, by omega, by go_num, by first | rfl | trivial, HZ2⟩
        case measure => simp [intOf]; omega
      · have HE := Lib.hid (show orI [r0, r1] = r from by
          have hr := HRk.out
          have hz := HZ.out
          have : k = 0 ∨ k = 1 := by omega
          rcases this with rfl | rfl
          · simp at hr; subst hr; simp [orI, h0]
          · have e0 := hz 0 (by omega); simp at e0 hr; subst hr; simp [orI, h0, e0])
        have h0' : (r == 0) = false := by simpa using h0
        go_wp2
        go_ret
        exact ⟨by rw [HE.out]; rfl, rfl⟩
def labI (a0 a1 b0 b1 : Int) : Int := orI [Lib.compareInt a0 b0, Lib.compareInt a1 b1]
set_option maxRecDepth 100000 in
set_option maxHeartbeats 3200000 in
theorem bylab_v (a0 a1 b0 b1 : Int) (W : World) :
    Calls Tryz.prog 143 #[.agg #[.int .i64 a0, .int .i64 a1], .agg #[.int .i64 b0, .int .i64 b1]] W
      fun e w' => e = .returned (.int .i64 (labI a0 a1 b0 b1)) ∧ w' = (((W.alloc (.cells #[.int .i64 a0, .int .i64 a1] 67)).alloc (.cells #[.int .i64 b0, .int .i64 b1] 67)).drew.alloc (.cells #[.int .i64 (Lib.compareInt a0 b0), .int .i64 (Lib.compareInt a1 b1)] 3)) := by
  obtain ⟨V0, hV0⟩ : ∃ V0, V0 = ((W.alloc (.cells #[.int .i64 a0, .int .i64 a1] 67)).alloc (.cells #[.int .i64 b0, .int .i64 b1] 67)) := ⟨_, rfl⟩
  have BA := Lib.hid (show Blk V0 W.heap.size 67 #[.int .i64 a0, .int .i64 a1] from by rw [hV0]; exact (Blk.new W _ _).alloc _)
  have BB := Lib.hid (show Blk V0 (W.heap.size + 1) 67 #[.int .i64 b0, .int .i64 b1] from by
    have h9 := Blk.new (W.alloc (.cells #[.int .i64 a0, .int .i64 a1] 67)) 67 #[.int .i64 b0, .int .i64 b1]
    simp only [World.size_alloc] at h9
    rw [hV0]; exact h9)
  have HS4 := Lib.hid (Blk.new V0.drew 3 #[.int .i64 (Lib.compareInt a0 b0), .int .i64 (Lib.compareInt a1 b1)])
  rw [← hV0]
  go_enter Tryz.func143, Tryz.ntmps143
  go_wp2_with fail
  rw [← hV0]
  clear hV0
  refine wp_region_held_drew (S := (fun V => Below (V0).heap.size (V0) V)) (by kernel_rfl) ((Below.refl _ _).drew) (fun hHeld => ?_)
  refine tk 0 hHeld ?_
  refine tk 1 hHeld ?_ (hy := fun w hSw => by (try dsimp only at hSw); have k0 := (hSw.cell (p := ⟨W.heap.size, 0, none⟩) BA.out.lt).trans (BA.out.at_ 0 rfl); clear hSw; go_simp; try with_reducible rfl)
  refine tk 2 hHeld ?_
  refine tk 3 hHeld ?_ (hy := fun w hSw => by (try dsimp only at hSw); have k0 := (hSw.cell (p := ⟨W.heap.size + 1, 0, none⟩) BB.out.lt).trans (BB.out.at_ 0 rfl); clear hSw; go_simp; try with_reducible rfl)
  refine tk 5 hHeld ?_
  refine tk 6 hHeld ?_ (hy := fun w hSw => by (try dsimp only at hSw); have k0 := (hSw.cell (p := ⟨W.heap.size, 1, none⟩) BA.out.lt).trans (BA.out.at_ 1 rfl); clear hSw; go_simp; try with_reducible rfl)
  refine tk 7 hHeld ?_
  refine tk 8 hHeld ?_ (hy := fun w hSw => by (try dsimp only at hSw); have k0 := (hSw.cell (p := ⟨W.heap.size + 1, 1, none⟩) BB.out.lt).trans (BB.out.at_ 1 rfl); clear hSw; go_simp; try with_reducible rfl)
  refine rd1 4 (fun K hK => ?_)
  go_simp
  go_at_call 179
  refine (cmp64 _ _ _).mono ?_
  rintro e w1 ⟨rfl, rfl⟩
  have hb := Below.refl V0.drew.heap.size V0.drew
  refine hK.out _ _ (hHeld.trans (hb.mono hHeld.size)) (fun hHeld => ?_)
  clear hK K hb
  refine rd1 9 (fun K hK => ?_)
  go_simp
  go_at_call 179
  refine (cmp64 _ _ _).mono ?_
  rintro e w1 ⟨rfl, rfl⟩
  have hb := Below.refl V0.drew.heap.size V0.drew
  refine hK.out _ _ (hHeld.trans (hb.mono hHeld.size)) (fun hHeld => ?_)
  clear hK K hb
  refine rd1 10 (fun K hK => ?_)
  go_simp
  have hb := (Below.refl V0.drew.heap.size V0.drew).alloc (Nat.le_refl _) (.cells #[.int .i64 (Lib.compareInt a0 b0), .int .i64 (Lib.compareInt a1 b1)] 3)
  refine hK.out _ _ (hHeld.trans (hb.mono hHeld.size)) (fun hHeld => ?_)
  clear hK K hb
  refine rd1 11 (fun K hK => ?_)
  go_simp
  go_at_call 155
  refine (or2_v _ _ _ _ HS4.out).mono ?_
  rintro e w1 ⟨rfl, rfl⟩
  have hb := Below.refl (V0.drew.alloc (.cells #[.int .i64 (Lib.compareInt a0 b0), .int .i64 (Lib.compareInt a1 b1)] 3)).heap.size (V0.drew.alloc (.cells #[.int .i64 (Lib.compareInt a0 b0), .int .i64 (Lib.compareInt a1 b1)] 3))
  refine hK.out _ _ (hHeld.trans (hb.mono hHeld.size)) (fun hHeld => ?_)
  clear hK K hb
  refine tk 12 hHeld ?_
  refine rd0 ?_
  have HF := Lib.hid hHeld
  clear hHeld
  go_wp2
  go_ret
  exact ⟨rfl, rfl⟩
theorem cmpI (a b : Int) : (Lib.compareInt a b = -1 ∧ a < b) ∨ (Lib.compareInt a b = 0 ∧ a = b) ∨ (Lib.compareInt a b = 1 ∧ b < a) := by
  unfold Lib.compareInt
  by_cases h1 : a < b
  · left; exact ⟨by simp [h1], h1⟩
  · by_cases h2 : b < a
    · right; right; exact ⟨by simp [h1, h2], h2⟩
    · right; left; exact ⟨by simp [h1, h2], by omega⟩
end Go.Proofs.YtelhmacfljffhaaGreat.SortC
end
section
namespace Go.Proofs.YtelhmacfljffhaaGreat.SortC
open Go.Shelf Go.RowKit RepC Go.Lib Go.Sort
set_option linter.unusedVariables false
set_option linter.unusedSimpArgs false
theorem grow3 (V : World) (o1 o2 o3 : Obj) : (((V.alloc o1).alloc o2).drew).alloc o3 = grow (V.drewN 1) #[o1, o2, o3] := by
  simp only [alloc_eq_grow]
  show grow (grow (grow (V.drewN 1) #[o1]) #[o2]) #[o3] = _
  rw [grow_grow, grow_grow]
  rfl
end Go.Proofs.YtelhmacfljffhaaGreat.SortC
end
section
namespace Go.Proofs.YtelhmacfljffhaaGreat.SortC
open Go.Shelf
def Tryz.sortLab_ren : Go.Shelf.Ren := ⟨fun | 6 => 177 | 15 => 196 | 14 => 195 | 28 => 207 | 29 => 208 | 20 => 199 | 21 => 200 | 22 => 201 | 23 => 202 | 24 => 203 | 25 => 204 | 26 => 205 | 27 => 206 | 46 => 209 | 47 => 210 | 48 => 211 | 49 => 212 | 50 => 213 | 57 => 214 | n => n, fun | 22 => 72 | 24 => 67 | 25 => 180 | 3 => 3 | 39 => 216 | 0 => 0 | 53 => 225 | 55 => 227 | 4 => 4 | 46 => 219 | 45 => 218 | 50 => 183 | 5 => 5 | 9 => 9 | 66 => 228 | 70 => 232 | 76 => 234 | 77 => 235 | n => n, fun | n => n⟩
theorem Tryz.sortLab : Go.Proofs.SlLaysF0.n6 Tryz.prog Tryz.sortLab_ren := {
  mixed := by kernel_rfl
  f6 := ⟨Tryz.f177.name, by decide, Tryz.func177.trans (congrArg some (by kernel_rfl))⟩
  f14 := ⟨Tryz.f195.name, by decide, Tryz.func195.trans (congrArg some (by kernel_rfl))⟩
  f15 := Tryz.func196.trans (congrArg some (by kernel_rfl))
  f20 := ⟨Tryz.f199.name, by decide, Tryz.func199.trans (congrArg some (by kernel_rfl))⟩
  f21 := ⟨Tryz.f200.name, by decide, Tryz.func200.trans (congrArg some (by kernel_rfl))⟩
  f22 := ⟨Tryz.f201.name, by decide, Tryz.func201.trans (congrArg some (by kernel_rfl))⟩
  f23 := ⟨Tryz.f202.name, by decide, Tryz.func202.trans (congrArg some (by kernel_rfl))⟩
  f24 := ⟨Tryz.f203.name, by decide, Tryz.func203.trans (congrArg some (by kernel_rfl))⟩
  f25 := ⟨Tryz.f204.name, by decide, Tryz.func204.trans (congrArg some (by kernel_rfl))⟩
  f26 := ⟨Tryz.f205.name, by decide, Tryz.func205.trans (congrArg some (by kernel_rfl))⟩
  f27 := ⟨Tryz.f206.name, by decide, Tryz.func206.trans (congrArg some (by kernel_rfl))⟩
  f28 := Tryz.func207.trans (congrArg some (by kernel_rfl))
  f29 := Tryz.func208.trans (congrArg some (by kernel_rfl))
  f46 := ⟨Tryz.f209.name, by decide, Tryz.func209.trans (congrArg some (by kernel_rfl))⟩
  f47 := Tryz.func210.trans (congrArg some (by kernel_rfl))
  f48 := Tryz.func211.trans (congrArg some (by kernel_rfl))
  f49 := ⟨Tryz.f212.name, by decide, Tryz.func212.trans (congrArg some (by kernel_rfl))⟩
  f50 := ⟨Tryz.f213.name, by decide, Tryz.func213.trans (congrArg some (by kernel_rfl))⟩
  f57 := ⟨Tryz.f214.name, by decide, Tryz.func214.trans (congrArg some (by kernel_rfl))⟩
  t0 := Tryz.underlying0
  a0 := Tryz.isAgg0
  z0 := Tryz.sizeOf0
  v0 := Tryz.zeroValue0
  t3 := Tryz.underlying3
  a3 := Tryz.isAgg3
  z3 := Tryz.sizeOf3
  v3 := Tryz.zeroValue3
  t4 := Tryz.underlying4
  a4 := Tryz.isAgg4
  z4 := Tryz.sizeOf4
  v4 := Tryz.zeroValue4
  t5 := Tryz.underlying5
  a5 := Tryz.isAgg5
  z5 := Tryz.sizeOf5
  v5 := Tryz.zeroValue5
  t9 := Tryz.underlying9
  a9 := Tryz.isAgg9
  z9 := Tryz.sizeOf9
  v9 := Tryz.zeroValue9
  t22 := Tryz.underlying72
  a22 := Tryz.isAgg72
  z22 := Tryz.sizeOf72
  v22 := Tryz.zeroValue72
  t25 := Tryz.underlying180
  a25 := Tryz.isAgg180
  z25 := Tryz.sizeOf180
  v25 := Tryz.zeroValue180
  t39 := Tryz.underlying216
  a39 := Tryz.isAgg216
  z39 := Tryz.sizeOf216
  v39 := Tryz.zeroValue216
  t45 := Tryz.underlying218
  a45 := Tryz.isAgg218
  z45 := Tryz.sizeOf218
  v45 := Tryz.zeroValue218
  t46 := Tryz.underlying219
  a46 := Tryz.isAgg219
  z46 := Tryz.sizeOf219
  v46 := Tryz.zeroValue219
  t50 := Tryz.underlying183
  a50 := Tryz.isAgg183
  z50 := Tryz.sizeOf183
  v50 := Tryz.zeroValue183
  t53 := Tryz.underlying225
  a53 := Tryz.isAgg225
  z53 := Tryz.sizeOf225
  v53 := Tryz.zeroValue225
  t55 := Tryz.underlying227
  a55 := Tryz.isAgg227
  z55 := Tryz.sizeOf227
  v55 := Tryz.zeroValue227
  t66 := Tryz.underlying228
  a66 := Tryz.isAgg228
  z66 := Tryz.sizeOf228
  v66 := Tryz.zeroValue228
  t70 := Tryz.underlying232
  a70 := Tryz.isAgg232
  z70 := Tryz.sizeOf232
  v70 := Tryz.zeroValue232
  t76 := Tryz.underlying234
  a76 := Tryz.isAgg234
  z76 := Tryz.sizeOf234
  v76 := Tryz.zeroValue234
  t77 := Tryz.underlying235
  a77 := Tryz.isAgg235
  z77 := Tryz.sizeOf235
  v77 := Tryz.zeroValue235 }
end Go.Proofs.YtelhmacfljffhaaGreat.SortC
end
section
namespace Go.Proofs.YtelhmacfljffhaaGreat.SortC
open Go.Shelf Go.RowKit RepC Go.Lib Go.Sort
set_option linter.unusedVariables false
set_option linter.unusedSimpArgs false
abbrev LC := Int × Int
def encL (x : LC) : List Value := [.int .i64 x.1, .int .i64 x.2]
def cfL (x y : LC) : Int := labI x.1 x.2 y.1 y.2
theorem ltL (x y : LC) : ltOf cfL x y = true ↔ (x.1 < y.1 ∨ x.1 = y.1 ∧ x.2 < y.2) := by
  unfold ltOf cfL labI orI
  rcases cmpI x.1 y.1 with ⟨e1, h1⟩ | ⟨e1, h1⟩ | ⟨e1, h1⟩ <;> rcases cmpI x.2 y.2 with ⟨e2, h2⟩ | ⟨e2, h2⟩ | ⟨e2, h2⟩ <;> rw [e1, e2] <;> simp <;> omega
theorem labI_ge (a0 a1 b0 b1 : Int) : 0 ≤ labI a0 a1 b0 b1 ↔ ¬ (a0 < b0 ∨ a0 = b0 ∧ a1 < b1) := by
  unfold labI orI
  rcases cmpI a0 b0 with ⟨e1, h1⟩ | ⟨e1, h1⟩ | ⟨e1, h1⟩ <;> rcases cmpI a1 b1 with ⟨e2, h2⟩ | ⟨e2, h2⟩ | ⟨e2, h2⟩ <;> rw [e1, e2] <;> simp <;> omega
theorem swoL : SWO (ltOf cfL) where
  irrefl x := by
    rw [Bool.eq_false_iff]; intro h; rw [ltL] at h; omega
  trans x y z h1 h2 := by rw [ltL] at *; omega
  ntrans x y z h1 h2 := by rw [Bool.eq_false_iff, ne_eq, ltL] at *; omega
theorem cmpLaysL (blk off size : Nat) (w : World) : CmpLays Tryz.prog 143 #[] encL 2 cfL blk off size w := fun m os dk _ x y =>
  (bylab_v x.1 x.2 y.1 y.2 _).mono fun _ _ ⟨he, hw⟩ => ⟨he, 1, _, hw.trans (grow3 _ _ _ _)⟩
theorem sort_labs (blk off cap : Nat) (d : Array LC) (w : World) (hH : HoldsK encL 2 w blk off d) (hblk : blk < w.heap.size) (hsz : d.size < 4611686018427387904) :
    Calls Tryz.prog 177 #[.slice (some ⟨blk, off, none⟩) d.size cap, .func (.func 143) #[] #[]] w fun e w' => e = .returned (.tuple #[]) ∧ ∃ d' n os, PermIn 0 d.size d d' ∧ SortedIn (ltOf cfL) 0 d.size d' ∧ w' = sortWorldK encL 2 w blk off n d' os := by
  have eg : ∀ args w, (callFunc 143 args).run Tryz.prog w = .ok (.enter 143 args) w := enters_of Tryz.func143 (by kernel_rfl) rfl
  exact AnyQ.slices_SortFunc Tryz.sortLab 2 Tryz.isAgg67 Tryz.sizeOf67 encL (fun _ => rfl) (fun x v hv => by simp [encL] at hv; rcases hv with rfl | rfl <;> rfl) cfL swoL 143 #[] blk off cap d w eg (cmpLaysL blk off d.size w) hH hblk hsz
end Go.Proofs.YtelhmacfljffhaaGreat.SortC
end
section
namespace Go.Proofs.YtelhmacfljffhaaGreat.RepC
open Go.RowKit RowC ValC SpanC KeptC Go.Sort Go.Lib
set_option linter.unusedVariables false
set_option linter.unusedSimpArgs false
def Rw (W : World) (g : Nat) (d : Array (Int × Int)) : Prop := ∀ j, j < d.size → W.cell? ⟨g, j * 2, none⟩ = some (.int .i64 d[j]!.1) ∧ W.cell? ⟨g, j * 2 + 1, none⟩ = some (.int .i64 d[j]!.2)
def Sf (W : World) (g : Nat) : Prop := ∀ j, W.frozen? ⟨g, j, none⟩ = false
theorem Rw.below {W W' : World} {g : Nat} {d : Array (Int × Int)} (h : Rw W g d) (hg : g < W.heap.size) (hb : RowKit.Below W.heap.size W W') : Rw W' g d := fun j hj => ⟨(hb.cell (p := ⟨g, _, none⟩) hg).trans (h j hj).1, (hb.cell (p := ⟨g, _, none⟩) hg).trans (h j hj).2⟩
theorem Sf.below {W W' : World} {g : Nat} (h : Sf W g) (hg : g < W.heap.size) (hb : RowKit.Below W.heap.size W W') : Sf W' g := fun j => (hb.frozen (p := ⟨g, j, none⟩) hg).trans (h j)
theorem Rw.set {W : World} {g i : Nat} {d : Array (Int × Int)} (h : Rw W g d) (hi : i < d.size) (x0 x1 : Int) : Rw ((W.setCell ⟨g, i * 2, none⟩ (.int .i64 x0)).setCell ⟨g, i * 2 + 1, none⟩ (.int .i64 x1)) g (d.setIfInBounds i (x0, x1)) := fun j hj => by
  have hj' : j < d.size := by simpa using hj
  by_cases e : j = i
  · subst e
    rw [getElem!_set_same d j _ hi]
    refine ⟨?_, ?_⟩
    · rw [World.cell?_setCell_other _ _ _ _ (fun e => by injection e with _ e2; omega)]
      exact World.cell?_setCell_same' _ _ _ (by rw [(h j hi).1]; rfl)
    · exact World.cell?_setCell_same' _ _ _ (by rw [World.cell?_setCell_other _ _ _ _ (fun e => by injection e with _ e2; omega), (h j hi).2]; rfl)
  · rw [getElem!_set_other d i j _ e]
    refine ⟨?_, ?_⟩
    · rw [World.cell?_setCell_other _ _ _ _ (fun e => by injection e with _ e2; omega), World.cell?_setCell_other _ _ _ _ (fun e => by injection e with _ e2; omega)]; exact (h j hj').1
    · rw [World.cell?_setCell_other _ _ _ _ (fun e => by injection e with _ e2; omega), World.cell?_setCell_other _ _ _ _ (fun e => by injection e with _ e2; omega)]; exact (h j hj').2
theorem Sf.set {W : World} {g i : Nat} (h : Sf W g) (u : Value) : Sf (W.setCell ⟨g, i, none⟩ u) g := fun j => by simpa using h j
theorem off_sort {g n : Nat} {d' : Array (Int × Int)} {os : Array Obj} {w : World} : Off (fun k => k = g) w (Go.Proofs.sortWorldK SortC.encL 2 w g 0 n d' os) := by
  unfold Go.Proofs.sortWorldK Go.Sort.putRowK
  refine ⟨rfl, rfl, rfl, by simp, fun k hk hkg => ?_⟩
  rw [heap_grow_old _ _ (by simpa using hk)]
  show (Array.modify _ _ _)[k]? = _
  rw [Array.getElem?_modify, if_neg (fun e => hkg e.symm)]
  rfl
theorem rw_holds {W : World} {g : Nat} {d : Array (Int × Int)} (h : HoldsK SortC.encL 2 W g 0 d) : Rw W g d := fun j hj => by
  have h0 := (h.cell (i := j) (c := 0) hj (by omega)).1
  have h1 := (h.cell (i := j) (c := 1) hj (by omega)).1
  simp only [Nat.zero_add, Nat.add_zero] at h0 h1
  exact ⟨h0, h1⟩
theorem holds_rw {W : World} {g : Nat} {d : Array (Int × Int)} (h : Rw W g d) (hf : Sf W g) : HoldsK SortC.encL 2 W g 0 d := fun t ht => by
  have ht' : t < d.size * 2 := by simpa using ht
  rw [get_flatK _ _ _ _ ht', Nat.zero_add]
  refine ⟨?_, hf t⟩
  obtain ⟨h0, h1⟩ := h (t / 2) (by omega)
  rcases Nat.mod_two_eq_zero_or_one t with e | e
  · rw [e, show t = t / 2 * 2 by omega]
    rw [show (t / 2 * 2) / 2 = t / 2 by omega]
    exact h0
  · rw [e, show t = t / 2 * 2 + 1 by omega]
    rw [show (t / 2 * 2 + 1) / 2 = t / 2 by omega]
    exact h1
def SrtR (L : List (Int × Int)) (w : World) (e : Ending) (w' : World) : Prop := ∃ g c d, e = .returned (.slice (some ⟨g, 0, none⟩) d.size c) ∧ d.size ≤ c ∧ c ≤ maxLen ∧ w.heap.size ≤ g ∧ g < w'.heap.size ∧ Rw w' g d ∧ Sf w' g ∧ d.size = L.length ∧ (∀ a, (∃ j, j < d.size ∧ d[j]! = a) ↔ a ∈ L) ∧ (∀ i j, i < j → j < d.size → ¬ (d[j]!.1 < d[i]!.1 ∨ d[j]!.1 = d[i]!.1 ∧ d[j]!.2 < d[i]!.2)) ∧ RowKit.Below w.heap.size w w'
theorem srtR_elim {L : List (Int × Int)} {w : World} {e : Ending} {w' : World} (h : SrtR L w e w') : ∃ g c d, e = .returned (.slice (some ⟨g, 0, none⟩) d.size c) ∧ d.size ≤ c ∧ c ≤ maxLen ∧ w.heap.size ≤ g ∧ g < w'.heap.size ∧ Rw w' g d ∧ Sf w' g ∧ d.size = L.length ∧ (∀ a, (∃ j, j < d.size ∧ d[j]! = a) ↔ a ∈ L) ∧ (∀ i j, i < j → j < d.size → ¬ (d[j]!.1 < d[i]!.1 ∨ d[j]!.1 = d[i]!.1 ∧ d[j]!.2 < d[i]!.2)) ∧ RowKit.Below w.heap.size w w' := h
theorem arr_mem (d : Array (Int × Int)) (a : Int × Int) : (∃ j, j < d.size ∧ d[j]! = a) ↔ a ∈ d.toList := by
  rw [Array.mem_toList_iff, Array.mem_iff_getElem]
  constructor
  · rintro ⟨j, hj, e⟩; exact ⟨j, hj, by rw [← e, getElem!_pos d j hj]⟩
  · rintro ⟨j, hj, e⟩; exact ⟨j, hj, by rw [← e, getElem!_pos d j hj]⟩
set_option maxRecDepth 100000 in
set_option maxHeartbeats 1600000 in
theorem clone_labs {L : List D_Label} {a : Option Addr} {cap : Nat} {W : World} (hn : L.length ≤ 1048576) (hne : 0 < L.length) (h : RdSl R_Label W W.heap.size L a cap) :
    Calls Tryz.prog 167 #[.slice a L.length cap] W (NewS R_Label L W) := by
  have qT : ∀ (w : World) (a : Option Addr) (n c n' c' : Nat), (binOp .eql 72 (.slice a n c) (.slice none n' c')).run Tryz.prog w = .ok (.bool a.isNone) w := fun w a n c n' c' => Lib.run_eql_slice_nil w _ _ a n c n' c' Tryz.underlying72
  obtain ⟨g, o, rfl, _⟩ := h.2.2 hne
  obtain ⟨iL, hiL, hzL1, hsL, hbL⟩ := infoLb
  obtain ⟨a', c', w5, hr, hos, hb⟩ := app_flat (P := Tryz.prog) (ty := 72) R_Label_ok flat_Label Tryz.underlying72 hiL hzL1 hsL hbL rfl (by decide) (by unfold maxLen; omega) (by omega) h
  clear hiL hzL1 hsL hbL
  have HR := Lib.hid hr
  have HO := Lib.hid hos
  have HB := Lib.hid hb
  clear hr hos hb h
  go_enter Tryz.func167, Tryz.ntmps167
  go_wp2_with (at_builtin; refine wpList_app rfl (.tmp 5) (.tmp 6) 72 rfl rfl rfl HR.out ?_)
  go_ret
  exact ⟨a', c', rfl, HO.out, HB.out⟩
set_option maxRecDepth 100000 in
set_option maxHeartbeats 1600000 in
theorem sorted_labs {L : List D_Label} {a : Option Addr} {cap : Nat} {W : World} (hn : L.length ≤ 1048576) (hne : 0 < L.length) (h : RdSl R_Label W W.heap.size L a cap) :
    Calls Tryz.prog 141 #[.slice a L.length cap, .func (.func 143) #[] #[]] W (SrtR L W) := by
  have HLen := Lib.hid (And.intro hn hne)
  go_enter Tryz.func141, Tryz.ntmps141
  go_wp2_with fail
  refine (clone_labs hn hne h).mono ?_
  intro e w1 h1
  obtain ⟨a1, c1, rfl, ho, hb⟩ := newS_elim h1
  obtain ⟨hc1, hc2, hrow⟩ := ho
  obtain ⟨g, Sg, rfl, hgS, hfr, hsub, _, hel⟩ := hrow hne
  have HRw := Lib.hid (show Rw w1 g L.toArray from fun j hj => by
    have hj' : j < L.length := by simpa using hj
    obtain ⟨x, hx⟩ := el_some hj'
    obtain ⟨us, hu, hr⟩ := hel j x hx
    obtain ⟨x0, x1⟩ := x
    obtain rfl := rd_Label (R_Label_ok.ow_rd hr (B := w1.heap.size) (fun k hk => (hsub j k hk).1.2))
    have e : L.toArray[j]! = (x0, x1) := by simp [List.getElem!_eq_getElem?_getD, hx]
    rw [e]
    exact ⟨by simpa [show R_Label.size = 2 from rfl] using hu 0 _ rfl, by simpa [show R_Label.size = 2 from rfl] using hu 1 _ rfl⟩)
  have HSf := Lib.hid (show Sf w1 g from hfr)
  have HB := Lib.hid hb
  have hg1 : W.heap.size ≤ g := hgS.1
  have hg2 : g < w1.heap.size := hgS.2
  have HC := Lib.hid (And.intro hc1 hc2)
  clear h h1 hb hc1 hc2 hrow hgS hfr hsub hel
  go_wp2_with fail
  have hs := SortC.sort_labs g 0 c1 L.toArray w1 (holds_rw HRw.out HSf.out) hg2 (by have := HLen.out.1; simp; omega)
  simp only [List.size_toArray] at hs
  refine hs.mono ?_
  rintro e w2 ⟨rfl, d', n, os, hp, hso, rfl⟩
  have hoff := off_sort (g := g) (n := n) (d' := d') (os := os) (w := w1)
  have hds : d'.size = L.length := by simpa using hp.1
  have hH2 : HoldsK SortC.encL 2 (Go.Proofs.sortWorldK SortC.encL 2 w1 g 0 n d' os) g 0 d' := by
    unfold Go.Proofs.sortWorldK
    exact holdsK_grow SortC.encL 2 _ _ g 0 d' (by simpa [Go.Sort.putRowK] using hg2) (holdsK_putRowK SortC.encL 2 _ g 0 L.toArray d' (holdsK_ahead SortC.encL 2 w1 n g 0 L.toArray (holds_rw HRw.out HSf.out)) (by simpa using hds))
  have HR2 := Lib.hid (rw_holds hH2)
  have HS2 := Lib.hid (show Sf (Go.Proofs.sortWorldK SortC.encL 2 w1 g 0 n d' os) g from fun j => by
    have := HSf.out j
    unfold Go.Proofs.sortWorldK
    rw [frozen?_grow _ _ _ (by simpa [Go.Sort.putRowK] using hg2)]
    unfold Go.Sort.putRowK
    rw [frozen?_putRow]
    exact this)
  have HMem := Lib.hid (show ∀ a, (∃ j, j < d'.size ∧ d'[j]! = a) ↔ a ∈ L from fun a => by
    rw [arr_mem]
    have h3 := hp.2.2
    have e1 : d'.extract 0 L.toArray.size = d' := by rw [← hp.1]; simp
    have e2 : L.toArray.extract 0 L.toArray.size = L.toArray := by simp
    rw [List.size_toArray] at e1 e2
    rw [e1, e2] at h3
    simpa using h3.mem_iff (a := a))
  have HSo := Lib.hid (show ∀ i j, i < j → j < d'.size → ¬ (d'[j]!.1 < d'[i]!.1 ∨ d'[j]!.1 = d'[i]!.1 ∧ d'[j]!.2 < d'[i]!.2) from fun i j hij hj hlt => by
    have := hso i j (Nat.zero_le _) hij (by simpa [hds] using hj)
    rw [(SortC.ltL _ _).2 hlt] at this
    cases this)
  have HB2 := Lib.hid (HB.out.trans (hoff.below HB.out.size (fun k hk => by rw [hk]; exact hg1)))
  have hz := hoff.size
  obtain ⟨w2, hw2⟩ : ∃ w, w = Go.Proofs.sortWorldK SortC.encL 2 w1 g 0 n d' os := ⟨_, rfl⟩
  rw [← hw2] at HR2 HS2 HB2 hz ⊢
  clear hs hp hso hH2 hoff hw2
  go_wp2
  go_ret
  exact ⟨g, c1, d', by rw [hds]; rfl, by rw [hds]; exact HC.out.1, HC.out.2, hg1, by omega, HR2.out, HS2.out, hds, HMem.out, HSo.out, HB2.out⟩
end Go.Proofs.YtelhmacfljffhaaGreat.RepC
end
