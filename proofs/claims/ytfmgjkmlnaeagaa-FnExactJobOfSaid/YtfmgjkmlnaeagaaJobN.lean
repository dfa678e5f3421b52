/- The numbers of a job's nodes, in the model: a contract. -/
import Derived.Test.YtfmgjkmlnaeagaaTk
import Derived.Test.YtfmgjkmlnaeagaaHeld
import Derived.Test.YtfmgjkmlnaeagaaSpRight
namespace Go.Proofs.Ytfmgjkmlnaeagaa.RepC
open Go.RowKit RowC ValC SpanC KeptC
set_option linter.unusedVariables false
set_option linter.unusedSimpArgs false

/-- the i-th number may stand there -/
def okN (L : List Int) (i : Nat) : Prop := ∀ x, L[i]? = some x → isB x 0 5 = true ∧ (0 < i → ∀ y, L[i - 1]? = some y → y < x)
def NodesR (L : List Int) : Prop := ∀ i, i < L.length → okN L i
theorem is_below (n lo hi : Int) {b : Bool} (hb : isB n lo hi = b) (w : World) :
    Calls Try.prog 27 #[.int .i64 n, .int .i64 lo, .int .i64 hi] w fun e w' => e = .returned (.bool b) ∧ Below w.heap.size w w' := by
  subst hb
  exact (is_spec n lo hi w).mono fun _ _ ⟨h1, h2⟩ => ⟨h1, h2 ▸ Below.refl _ _⟩

set_option maxRecDepth 100000 in
set_option maxHeartbeats 3200000 in
theorem nodes_spec {L : List Int} {a : Option Addr} {cap : Nat} {W : World} (h : RdSl I W W.heap.size L a cap) :
    Calls Try.prog 29 #[.slice a L.length cap] W (ResB (NodesR L) W) := by
  have hn : L.length ≤ 9223372036854775807 := by have h1 := h.1; have h2 := h.2.1; unfold maxLen at h2; omega
  have H := Lib.hid h
  clear h
  go_enter Try.func29, Try.ntmps29
  go_wp2
  go_loopw [3] (fun i wr => ∃ k : Nat, k ≤ L.length ∧ i = .int .i64 k ∧ (∀ j, j < k → okN L j) ∧ Below W.heap.size W wr) (fun i _ => L.length - (intOf i).toNat)
  case atStart => exact ⟨0, Nat.zero_le _, rfl, fun j h => absurd h (Nat.not_lt_zero _), Below.refl _ _⟩
  case round =>
    obtain ⟨k, hk, rfl, hall, hB⟩ := hrel
    have HA := Lib.hid hall
    have HB := Lib.hid hB
    have hsz := hB.size
    clear hall
    by_cases hlt : k < L.length
    · obtain ⟨x, hx⟩ := el_some hlt
      have HX := Lib.hid hx
      obtain ⟨g, o, us, rfl, hg, hu, hr⟩ := (H.out.below I_ok hB).at_ hx
      obtain rfl : us = [_] := hr
      have hc0 : wr.cell? ⟨g, o + k, none⟩ = some (.int .i64 x) := by simpa [show I.size = 1 from rfl] using hu 0 _ rfl
      have hgl : g < wr.heap.size := Nat.lt_of_lt_of_le hg hsz
      have hi0 : (0 : Int) ≤ (k : Int) := Int.natCast_nonneg _
      have hi1 : (k : Int) < (L.length : Int) := by omega
      clear hB hx hu
      cases hr : isB x 0 5 with
      | false =>
        have Hno := Lib.hid (show ¬ NodesR L from fun h => by have := (h k hlt x HX.out).1; rw [hr] at this; cases this)
        have hrs := fun W => is_below x 0 5 hr W
        clear hr
        go_wp2_with fail
        refine wp_region_held_drew (S := (fun V => V.cell? ⟨g, o + k, none⟩ = some (.int .i64 x) ∧ wr.heap.size ≤ V.heap.size ∧ Below (W.heap.size) (W) V)) (by kernel_rfl) (⟨hc0, Nat.le_refl _, HB.out.drew⟩) (fun hHeld => ?_)
        refine tk 0 hHeld ?_
        refine tk 1 hHeld ?_
        refine tk 2 hHeld ?_
        refine tk 3 hHeld ?_
        refine rd1 4 (fun K hK => ?_)
        go_simp
        go_at_call 27; refine (hrs _).mono ?_; rintro e w1 ⟨rfl, hb⟩
        refine hK.out _ _ (⟨(hb.cell (p := ⟨g, o + k, none⟩) (Nat.lt_of_lt_of_le hgl hHeld.2.1)).trans hHeld.1, Nat.le_trans hHeld.2.1 hb.size, hHeld.2.2.trans (hb.mono (Nat.le_trans hsz hHeld.2.1))⟩) (fun hHeld => ?_)
        clear hK K
        refine tk 5 hHeld ?_
        refine tk 6 hHeld ?_
        refine tn 7 hHeld ?_
        refine tn 8 hHeld ?_
        refine tn 9 hHeld ?_
        refine tn 10 hHeld ?_
        refine tn 11 hHeld ?_
        refine tn 12 hHeld ?_
        refine tn 13 hHeld ?_
        refine tn 14 hHeld ?_
        refine tn 15 hHeld ?_
        refine tn 16 hHeld ?_
        refine tn 17 hHeld ?_
        refine tn 18 hHeld ?_
        refine tn 19 hHeld ?_
        refine tn 20 hHeld ?_
        refine tk 21 hHeld ?_
        refine rd0 ?_
        have HF := Lib.hid hHeld.2.2
        clear hHeld
        go_wp2
        go_ret
        exact resB_no Hno.out HF.out
      | true =>
        have hrs := fun W => is_below x 0 5 hr W
        have Hr := Lib.hid hr
        clear hr
        rcases Nat.eq_zero_or_pos k with hk0 | hk0
        · subst hk0
          have hc0' : wr.cell? ⟨g, o, none⟩ = some (.int .i64 x) := hc0
          clear hc0
          have HOK := Lib.hid (all_step HA.out (show okN L 0 from fun y hy => by have := HX.out; rw [hy] at this; obtain rfl := Option.some.inj this; exact ⟨Hr.out, fun h => absurd h (Nat.lt_irrefl _)⟩))
          go_wp2_with fail
          refine wp_region_held_drew (S := (fun V => V.cell? ⟨g, o, none⟩ = some (.int .i64 x) ∧ wr.heap.size ≤ V.heap.size ∧ Below (W.heap.size) (W) V)) (by kernel_rfl) (⟨hc0', Nat.le_refl _, HB.out.drew⟩) (fun hHeld => ?_)
          refine tk 0 hHeld ?_
          refine tk 1 hHeld ?_
          refine tk 2 hHeld ?_
          refine tk 3 hHeld ?_
          refine rd1 4 (fun K hK => ?_)
          go_simp
          go_at_call 27; refine (hrs _).mono ?_; rintro e w1 ⟨rfl, hb⟩
          refine hK.out _ _ (⟨(hb.cell (p := ⟨g, o, none⟩) (Nat.lt_of_lt_of_le hgl hHeld.2.1)).trans hHeld.1, Nat.le_trans hHeld.2.1 hb.size, hHeld.2.2.trans (hb.mono (Nat.le_trans hsz hHeld.2.1))⟩) (fun hHeld => ?_)
          clear hK K
          refine tk 5 hHeld ?_
          refine tk 6 hHeld ?_
          refine tk 7 hHeld ?_
          refine tk 8 hHeld ?_
          refine tk 9 hHeld ?_
          refine tn 10 hHeld ?_
          refine tn 11 hHeld ?_
          refine tn 12 hHeld ?_
          refine tn 13 hHeld ?_
          refine tn 14 hHeld ?_
          refine tn 15 hHeld ?_
          refine tn 16 hHeld ?_
          refine tn 17 hHeld ?_
          refine tn 18 hHeld ?_
          refine tn 19 hHeld ?_
          refine tk 20 hHeld ?_
          refine tk 21 hHeld ?_
          refine rd0 ?_
          have HF := Lib.hid hHeld.2.2
          clear hHeld
          go_wp2
          go_roundw
          case rel => exact ⟨1, by omega, by go_num, HOK.out, HF.out⟩
          case measure => simp [intOf]; omega
        · obtain ⟨j, rfl⟩ : ∃ j, k = j + 1 := ⟨k - 1, by omega⟩
          obtain ⟨y, hy⟩ := el_some (L := L) (k := j) (by omega)
          have HY := Lib.hid hy
          obtain ⟨g2, o2, us, he, hg2, hu, hr⟩ := (H.out.below I_ok HB.out).at_ hy
          cases he
          obtain rfl : us = [_] := hr
          have hd0 : wr.cell? ⟨g, o + j, none⟩ = some (.int .i64 y) := by simpa [show I.size = 1 from rfl] using hu 0 _ rfl
          have hj0 : (0 : Int) ≤ (j : Int) := Int.natCast_nonneg _
          have hj1 : (j : Int) < (L.length : Int) := by omega
          have hjw2 : IntKind.i64.wrap (j : Int) = (j : Int) := IntWalk.i64_in _ (by omega)
          have hi0p : (0 : Int) ≤ (j : Int) + 1 := by omega
          have hi1p : (j : Int) + 1 < (L.length : Int) := by omega
          have hjw : IntKind.i64.wrap ((j : Int) + 1 - 1) = (j : Int) := (by rw [show (j : Int) + 1 - 1 = (j : Int) by omega]; exact IntWalk.i64_in _ (by omega))
          have hjp : decide ((0 : Int) < (j : Int) + 1) = true := decide_eq_true (by omega)
          clear hy hu hg2
          by_cases hlo : x ≤ y
          · have Hno := Lib.hid (show ¬ NodesR L from fun h => by have h2 := (h (j + 1) hlt x HX.out).2 (Nat.succ_pos _) y HY.out; omega)
            have hlo' : decide (x ≤ y) = true := decide_eq_true hlo
            go_wp2_with fail
            refine wp_region_held_drew (S := (fun V => V.cell? ⟨g, o + j, none⟩ = some (.int .i64 y) ∧ V.cell? ⟨g, o + (j + 1), none⟩ = some (.int .i64 x) ∧ wr.heap.size ≤ V.heap.size ∧ Below (W.heap.size) (W) V)) (by kernel_rfl) (⟨hd0, hc0, Nat.le_refl _, HB.out.drew⟩) (fun hHeld => ?_)
            refine tk 0 hHeld ?_
            refine tk 1 hHeld ?_
            refine tk 2 hHeld ?_
            refine tk 3 hHeld ?_
            refine rd1 4 (fun K hK => ?_)
            go_simp
            go_at_call 27; refine (hrs _).mono ?_; rintro e w1 ⟨rfl, hb⟩
            refine hK.out _ _ (⟨(hb.cell (p := ⟨g, o + j, none⟩) (Nat.lt_of_lt_of_le hgl hHeld.2.2.1)).trans hHeld.1, (hb.cell (p := ⟨g, o + (j + 1), none⟩) (Nat.lt_of_lt_of_le hgl hHeld.2.2.1)).trans hHeld.2.1, Nat.le_trans hHeld.2.2.1 hb.size, hHeld.2.2.2.trans (hb.mono (Nat.le_trans hsz hHeld.2.2.1))⟩) (fun hHeld => ?_)
            clear hK K
            refine tk 5 hHeld ?_
            refine tk 6 hHeld ?_
            refine tk 7 hHeld ?_
            refine tk 8 hHeld ?_
            refine tk 9 hHeld ?_
            refine tk 10 hHeld ?_
            refine tk 11 hHeld ?_
            refine tk 12 hHeld ?_
            refine tk 13 hHeld ?_
            refine tk 14 hHeld ?_
            refine tk 15 hHeld ?_
            refine tk 16 hHeld ?_
            refine tk 17 hHeld ?_
            refine tk 18 hHeld ?_
            refine tk 19 hHeld ?_
            refine tk 20 hHeld ?_
            refine tk 21 hHeld ?_
            refine rd0 ?_
            have HF := Lib.hid hHeld.2.2.2
            clear hHeld
            go_wp2
            go_ret
            exact resB_no Hno.out HF.out
          · have HOK := Lib.hid (all_step HA.out (show okN L (j + 1) from fun z hz => by
              have := HX.out; rw [hz] at this; obtain rfl := Option.some.inj this
              exact ⟨Hr.out, fun _ u hu => by have h3 := HY.out; rw [Nat.add_sub_cancel] at hu; rw [hu] at h3; obtain rfl := Option.some.inj h3; omega⟩))
            have hlo' : decide (x ≤ y) = false := decide_eq_false hlo
            go_wp2_with fail
            refine wp_region_held_drew (S := (fun V => V.cell? ⟨g, o + j, none⟩ = some (.int .i64 y) ∧ V.cell? ⟨g, o + (j + 1), none⟩ = some (.int .i64 x) ∧ wr.heap.size ≤ V.heap.size ∧ Below (W.heap.size) (W) V)) (by kernel_rfl) (⟨hd0, hc0, Nat.le_refl _, HB.out.drew⟩) (fun hHeld => ?_)
            refine tk 0 hHeld ?_
            refine tk 1 hHeld ?_
            refine tk 2 hHeld ?_
            refine tk 3 hHeld ?_
            refine rd1 4 (fun K hK => ?_)
            go_simp
            go_at_call 27; refine (hrs _).mono ?_; rintro e w1 ⟨rfl, hb⟩
            refine hK.out _ _ (⟨(hb.cell (p := ⟨g, o + j, none⟩) (Nat.lt_of_lt_of_le hgl hHeld.2.2.1)).trans hHeld.1, (hb.cell (p := ⟨g, o + (j + 1), none⟩) (Nat.lt_of_lt_of_le hgl hHeld.2.2.1)).trans hHeld.2.1, Nat.le_trans hHeld.2.2.1 hb.size, hHeld.2.2.2.trans (hb.mono (Nat.le_trans hsz hHeld.2.2.1))⟩) (fun hHeld => ?_)
            clear hK K
            refine tk 5 hHeld ?_
            refine tk 6 hHeld ?_
            refine tk 7 hHeld ?_
            refine tk 8 hHeld ?_
            refine tk 9 hHeld ?_
            refine tk 10 hHeld ?_
            refine tk 11 hHeld ?_
            refine tk 12 hHeld ?_
            refine tk 13 hHeld ?_
            refine tk 14 hHeld ?_
            refine tk 15 hHeld ?_
            refine tk 16 hHeld ?_
            refine tk 17 hHeld ?_
            refine tk 18 hHeld ?_
            refine tk 19 hHeld ?_
            refine tk 20 hHeld ?_
            refine tk 21 hHeld ?_
            refine rd0 ?_
            have HF := Lib.hid hHeld.2.2.2
            clear hHeld
            go_wp2
            go_roundw
            case rel => exact ⟨j + 2, by omega, by go_num, HOK.out, HF.out⟩
            case measure => simp [intOf]; omega
    · have Hy := Lib.hid (show NodesR L from fun i hi => HA.out i (by omega))
      clear hB
      go_wp2
      go_ret
      exact resB_yes Hy.out HB.out
end Go.Proofs.Ytfmgjkmlnaeagaa.RepC
