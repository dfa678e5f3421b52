/- SpansRight in the program: a contract. -/
import Derived.Test.YtfciojkibklkfaaTk
import Derived.Test.YtfciojkibklkfaaTk
import Derived.Test.YtfciojkibklkfaaSqRight
namespace Go.Proofs.Ytfciojkibklkfaa.SpanC
open Go.RowKit KeptC
set_option linter.unusedSimpArgs false

theorem method_before (a b : Int) (w : World) : (Go.method 219 25 (.agg #[.int .i64 a, .int .i64 b]) "loop.example/g00658/impl.before").run Try.prog w = .ok (113, .agg #[.int .i64 a, .int .i64 b]) w := by kernel_rfl
def Ord (n : Nat) (f : Nat → Int × Int) : Prop := ∀ j, j + 1 < n → (f j).2 ≤ (f (j + 1)).1

set_option maxRecDepth 100000 in
set_option maxHeartbeats 3200000 in
theorem order_impl (qa : Option Addr) (n qc : Nat) (f : Nat → Int × Int) (w : World) (hn : n ≤ 1048576) (h1 : PA w qa n f) :
    Calls Try.prog 89 #[.slice qa n qc] w (ResB (Ord n f) w) := by
  have H1 := Lib.hid h1
  clear h1
  go_enter Try.func89, Try.ntmps89
  go_wp2
  go_loopw [3] (fun i wr => ∃ k : Nat, (k ≤ n ∨ k = 1) ∧ 1 ≤ k ∧ i = .int .i64 k ∧ (∀ j, j + 1 < k → (f j).2 ≤ (f (j + 1)).1) ∧ Below w.heap.size w wr) (fun i _ => n - (intOf i).toNat)
  case atStart => exact ⟨1, .inr rfl, by omega, rfl, fun j h => by omega, Below.refl _ _⟩
  case round =>
    obtain ⟨k, hk, hk1, rfl, hall, hb⟩ := hrel
    have HA := Lib.hid hall
    have HB := Lib.hid hb
    have hsz := hb.size
    clear hall
    by_cases hlt : k < n
    · obtain ⟨j, rfl⟩ : ∃ j, k = j + 1 := ⟨k - 1, by omega⟩
      obtain ⟨g, o, rfl, hgl, hc0, hc1⟩ := (H1.out.bel hb) _ hlt
      obtain ⟨g2, o2, e2, _, hd0, hd1⟩ := (H1.out.bel HB.out) j (by omega)
      cases e2
      have hj0 : (0 : Int) ≤ (j : Int) := Int.natCast_nonneg _
      have hj1 : (j : Int) < (n : Int) := by omega
      have hjw2 : IntKind.i64.wrap (j : Int) = (j : Int) := IntWalk.i64_in _ (by omega)
      have hi0p : (0 : Int) ≤ (j : Int) + 1 := by omega
      have hi1p : (j : Int) + 1 < (n : Int) := by omega
      have hjw : IntKind.i64.wrap ((j : Int) + 1 - 1) = (j : Int) := (by rw [show (j : Int) + 1 - 1 = (j : Int) by omega]; exact IntWalk.i64_in _ (by omega))
      clear hb
      have hm := method_before (f j).1 (f j).2
      have hrs := fun W => before_impl (f j).1 (f j).2 (f (j + 1)).1 (f (j + 1)).2 W
      by_cases hlo : (f j).2 ≤ (f (j + 1)).1
      · have HOK := Lib.hid (show ∀ i, i + 1 < j + 2 → (f i).2 ≤ (f (i + 1)).1 from fun i hi => by
          by_cases e : i = j
          · subst e; exact hlo
          · exact HA.out i (by omega))
        rw [decide_eq_true hlo] at hrs
        go_wp2_with fail
        refine wp_region_held_drew (S := (fun W => W.cell? ⟨g, o + j * 2, none⟩ = some (.int .i64 (f j).1) ∧ W.cell? ⟨g, o + j * 2 + 1, none⟩ = some (.int .i64 (f j).2) ∧ W.cell? ⟨g, o + (j + 1) * 2, none⟩ = some (.int .i64 (f (j + 1)).1) ∧ W.cell? ⟨g, o + (j + 1) * 2 + 1, none⟩ = some (.int .i64 (f (j + 1)).2) ∧ wr.heap.size ≤ W.heap.size ∧ Below w.heap.size w W)) (by kernel_rfl) (⟨hd0, hd1, hc0, hc1, Nat.le_refl _, HB.out.drew⟩) (fun hHeld => ?_)
        refine tk 0 hHeld ?_
        refine tk 1 hHeld ?_
        refine tk 2 hHeld ?_
        refine tk 3 hHeld ?_
        refine tk 4 hHeld ?_
        refine tk 5 hHeld ?_
        refine tk 6 hHeld ?_
        refine tk 7 hHeld ?_
        refine tk 8 hHeld ?_
        refine tk 9 hHeld ?_
        refine rd1 10 (fun K hK => ?_)
        go_simp
        go_at_call 113; refine (hrs _).mono ?_; rintro e w1 ⟨rfl, hb⟩
        refine hK.out _ _ (⟨(hb.cell (p := ⟨g, o + j * 2, none⟩) (Nat.lt_of_lt_of_le hgl hHeld.2.2.2.2.1)).trans hHeld.1, (hb.cell (p := ⟨g, o + j * 2 + 1, none⟩) (Nat.lt_of_lt_of_le hgl hHeld.2.2.2.2.1)).trans hHeld.2.1, (hb.cell (p := ⟨g, o + (j + 1) * 2, none⟩) (Nat.lt_of_lt_of_le hgl hHeld.2.2.2.2.1)).trans hHeld.2.2.1, (hb.cell (p := ⟨g, o + (j + 1) * 2 + 1, none⟩) (Nat.lt_of_lt_of_le hgl hHeld.2.2.2.2.1)).trans hHeld.2.2.2.1, Nat.le_trans hHeld.2.2.2.2.1 hb.size, hHeld.2.2.2.2.2.trans (hb.mono (Nat.le_trans hsz hHeld.2.2.2.2.1))⟩) (fun hHeld => ?_)
        clear hK K
        refine tk 11 hHeld ?_
        refine rd0 ?_
        have HF := Lib.hid hHeld.2.2.2.2.2
        clear hHeld
        go_wp2
        go_roundw
        case rel => exact ⟨j + 2, by omega, by omega, by go_num, HOK.out, HF.out⟩
        case measure => simp [intOf]; omega
      · have Hno := Lib.hid (show ¬ Ord n f from fun h => hlo (h j hlt))
        rw [decide_eq_false hlo] at hrs
        go_wp2_with fail
        refine wp_region_held_drew (S := (fun W => W.cell? ⟨g, o + j * 2, none⟩ = some (.int .i64 (f j).1) ∧ W.cell? ⟨g, o + j * 2 + 1, none⟩ = some (.int .i64 (f j).2) ∧ W.cell? ⟨g, o + (j + 1) * 2, none⟩ = some (.int .i64 (f (j + 1)).1) ∧ W.cell? ⟨g, o + (j + 1) * 2 + 1, none⟩ = some (.int .i64 (f (j + 1)).2) ∧ wr.heap.size ≤ W.heap.size ∧ Below w.heap.size w W)) (by kernel_rfl) (⟨hd0, hd1, hc0, hc1, Nat.le_refl _, HB.out.drew⟩) (fun hHeld => ?_)
        refine tk 0 hHeld ?_
        refine tk 1 hHeld ?_
        refine tk 2 hHeld ?_
        refine tk 3 hHeld ?_
        refine tk 4 hHeld ?_
        refine tk 5 hHeld ?_
        refine tk 6 hHeld ?_
        refine tk 7 hHeld ?_
        refine tk 8 hHeld ?_
        refine tk 9 hHeld ?_
        refine rd1 10 (fun K hK => ?_)
        go_simp
        go_at_call 113; refine (hrs _).mono ?_; rintro e w1 ⟨rfl, hb⟩
        refine hK.out _ _ (⟨(hb.cell (p := ⟨g, o + j * 2, none⟩) (Nat.lt_of_lt_of_le hgl hHeld.2.2.2.2.1)).trans hHeld.1, (hb.cell (p := ⟨g, o + j * 2 + 1, none⟩) (Nat.lt_of_lt_of_le hgl hHeld.2.2.2.2.1)).trans hHeld.2.1, (hb.cell (p := ⟨g, o + (j + 1) * 2, none⟩) (Nat.lt_of_lt_of_le hgl hHeld.2.2.2.2.1)).trans hHeld.2.2.1, (hb.cell (p := ⟨g, o + (j + 1) * 2 + 1, none⟩) (Nat.lt_of_lt_of_le hgl hHeld.2.2.2.2.1)).trans hHeld.2.2.2.1, Nat.le_trans hHeld.2.2.2.2.1 hb.size, hHeld.2.2.2.2.2.trans (hb.mono (Nat.le_trans hsz hHeld.2.2.2.2.1))⟩) (fun hHeld => ?_)
        clear hK K
        refine tk 11 hHeld ?_
        refine rd0 ?_
        have HF := Lib.hid hHeld.2.2.2.2.2
        clear hHeld
        go_wp2
        go_ret
        exact resB_no Hno.out HF.out
    · have Hy := Lib.hid (show Ord n f from fun j hj => HA.out j (by omega))
      clear hb
      go_wp2
      go_ret
      exact resB_yes Hy.out HB.out
end Go.Proofs.Ytfciojkibklkfaa.SpanC
