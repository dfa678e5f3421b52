/- Rows of spans: conversion, comparison, marks: contracts. -/
import Derived.Test.YtglifjjoalkkbaaSpPut
import Derived.Test.YtglifjjoalkkbaaVals
namespace Go.Proofs.Ytglifjjoalkkbaa.SpanC
open Go.RowKit KeptC RowC ValC
set_option linter.unusedSimpArgs false
set_option linter.unusedVariables false

abbrev SpV (n : Nat) (f : Nat → Int × Int) (W : World) (S : Nat → Prop) (v : Value) : Prop := RowV W S v n 2 (pc f)
theorem fill_v {w W : World} {n : Nat} {f : Nat → Int × Int} (h : Fill w n f n W) : SpV n f W (Rg w.heap.size W.heap.size) (.slice (some ⟨w.heap.size, 0, none⟩) n n) :=
  ⟨fun k hk => hk.2, _, _, rfl, Nat.le_refl _, fun _ => ⟨_, rfl, ⟨Nat.le_refl _, h.lt⟩, fun j hj => by simpa using h.row.cells j hj, h.soft⟩⟩
/-- a conversion, as a law meets it -/
theorem toS_new {arg : Value} {n : Nat} {f : Nat → Int × Int} {W : World} (h : Calls Try.prog 26 #[arg] W (MadeRow W n f)) :
    Calls Try.prog 26 #[arg] W fun e w' => e = .returned (.slice (some ⟨W.heap.size, 0, none⟩) n n) ∧ SpV n f w' (Rg W.heap.size w'.heap.size) (.slice (some ⟨W.heap.size, 0, none⟩) n n) ∧ PRow w' W.heap.size 0 n f ∧ Below W.heap.size W w' ∧ W.heap.size < w'.heap.size :=
  h.mono fun e w' ⟨he, hF⟩ => ⟨he, fill_v hF, hF.row, hF.below, hF.lt⟩
theorem prow0 {W : World} {g n : Nat} {f : Nat → Int × Int} (h : ∀ j, j < n * 2 → W.cell? ⟨g, j, none⟩ = some (pc f j)) : PRow W g 0 n f := prow_of (fun j hj => by simpa using h j hj)

set_option maxHeartbeats 1600000 in
theorem eqS_v {n : Nat} {f h : Nat → Int × Int} {v v' : Value} {S S' : Nat → Prop} {w : World} (hn : n ≤ 2097152) (h1 : SpV n f w S v) (h2 : SpV n h w S' v') (he : ∀ i, i < n → f i = h i) :
    Calls Try.prog 27 #[v, v'] w (IsB true w) := by
  have h2 : SpV n f w S' v' := RowV.congr h2 (fun j hj => (pc_of (p := pc h) (f := f) (n := n) (fun i hi => by rw [he i hi]; exact ⟨pc_even _ _, pc_odd _ _⟩) j hj))
  refine h1.cases (fun a cap e0 e1 => ?_) (fun g cap hpos hcap e1 hg l1 hc1 hf1 => ?_)
  · subst e0 e1
    obtain ⟨_, a', cap', rfl, _, _⟩ := h2
    clear h1 he
    go_enter Try.func27, Try.ntmps27
    go_wp2
    go_loopw [5] (fun i wr => i = .int .i64 0 ∧ wr = w) (fun i _ => 0)
    case atStart => exact ⟨rfl, rfl⟩
    case round =>
      obtain ⟨rfl, rfl⟩ := hrel
      go_wp2
      go_ret
      exact ⟨rfl, Below.refl _ _⟩
  · refine h2.cases (fun a cap e0 e1 => by omega) (fun g' cap' _ hcap' e2 hg' l2 hc2 hf2 => ?_)
    subst e1 e2
    have H1 := Lib.hid (prow0 hc1)
    have H2 := Lib.hid (prow0 hc2)
    clear h1 h2 hc1 hc2 hf1 hf2 he hg hg'
    go_enter Try.func27, Try.ntmps27
    go_wp2
    go_loopw [5] (fun i wr => ∃ k : Nat, k ≤ n ∧ i = .int .i64 k ∧ Below w.heap.size w wr) (fun i _ => n - (intOf i).toNat)
    case atStart => exact ⟨0, Nat.zero_le _, rfl, Below.refl _ _⟩
    case round =>
      obtain ⟨k, hk, rfl, hb⟩ := hrel
      by_cases hlt : k < n
      · have ⟨hc0, hc1⟩ := (H1.out.below hb l1).at0 hlt
        have ⟨hd0, hd1⟩ := (H2.out.below hb l2).at0 hlt
        have HB := Lib.hid hb
        have hsz := hb.size
        have hi0 : (0 : Int) ≤ (k : Int) := Int.natCast_nonneg _
        have hi1 : (k : Int) < (n : Int) := by omega
        clear hb
        go_wp2_with fail
        go_region_held3 (fun W => W.cell? ⟨g, k * 2, none⟩ = some (.int .i64 (f k).1) ∧ W.cell? ⟨g, k * 2 + 1, none⟩ = some (.int .i64 (f k).2) ∧ W.cell? ⟨g', k * 2, none⟩ = some (.int .i64 (f k).1) ∧ W.cell? ⟨g', k * 2 + 1, none⟩ = some (.int .i64 (f k).2) ∧ Below w.heap.size w W)
          (first | exact ⟨(hb.cell (p := ⟨g, k * 2, none⟩) (Nat.lt_of_lt_of_le l1 hsz)).trans hc0, (hb.cell (p := ⟨g, k * 2 + 1, none⟩) (Nat.lt_of_lt_of_le l1 hsz)).trans hc1, (hb.cell (p := ⟨g', k * 2, none⟩) (Nat.lt_of_lt_of_le l2 hsz)).trans hd0, (hb.cell (p := ⟨g', k * 2 + 1, none⟩) (Nat.lt_of_lt_of_le l2 hsz)).trans hd1, HB.out.drew.trans (hb.mono hsz)⟩ | exact ⟨hc0, hc1, hd0, hd1, HB.out.drew⟩)
          (first | (go_at_call 63; refine (eq_sp _ _ _).mono ?_; rintro e w1 ⟨rfl, hb⟩))
        all_goals
          have HB2 := Lib.hid (HB.out.drew.trans (hb.mono hsz))
          clear hb
          go_wp2
          go_roundw
          case rel => exact ⟨k + 1, by omega, by go_num, HB2.out⟩
          case measure => simp [intOf]; omega
      · go_wp2
        go_ret
        exact ⟨rfl, hb⟩

/-- the marks from k on -/
def markF (k : Int) (i : Nat) : Int × Int := (k + 2 * i, k + 2 * i + 1)
def Mk (g n i : Nat) (k : Int) (w W : World) : Prop := (∀ j, j < n * 2 → ∃ u, W.cell? ⟨g, j, none⟩ = some u ∧ (j < i * 2 → u = pc (markF k) j)) ∧ (∀ j, W.frozen? ⟨g, j, none⟩ = false) ∧ Off (fun x => x = g) w W ∧ W.heap.size = w.heap.size
theorem Mk.put {g n i : Nat} {k : Int} {w W : World} (h : Mk g n i k w W) (hi : i < n) : Mk g n (i + 1) k w ((W.setCell ⟨g, i * 2, none⟩ (.int .i64 (k + 2 * i))).setCell ⟨g, i * 2 + 1, none⟩ (.int .i64 (k + 2 * i + 1))) := by
  obtain ⟨h1, h2, h3, h4⟩ := h
  have ne : ∀ a b : Nat, a ≠ b → (⟨g, a, none⟩ : Addr) ≠ ⟨g, b, none⟩ := fun a b hab e => hab (by injection e)
  refine ⟨fun j hj => ?_, fun j => by simpa using h2 j, (h3.setCell rfl _).setCell rfl _, by simpa using h4⟩
  obtain ⟨u, hu, hk⟩ := h1 j hj
  by_cases e1 : j = i * 2 + 1
  · subst e1
    exact ⟨_, World.cell?_setCell_same' _ _ _ (by rw [World.cell?_setCell_other _ _ _ _ (ne _ _ (by omega)), hu]; rfl), fun _ => by rw [pc_odd]; rfl⟩
  · rw [World.cell?_setCell_other _ _ _ _ (ne _ _ (Ne.symm e1))]
    by_cases e2 : j = i * 2
    · subst e2
      exact ⟨_, World.cell?_setCell_same' _ _ _ (by rw [hu]; rfl), fun _ => by rw [pc_even]; rfl⟩
    · rw [World.cell?_setCell_other _ _ _ _ (ne _ _ (Ne.symm e2))]
      exact ⟨u, hu, fun hj2 => hk (by omega)⟩

set_option maxHeartbeats 1600000 in
theorem markS_v {n : Nat} {f : Nat → Int × Int} {v : Value} {S : Nat → Prop} {w : World} {k : Int} (hn : n ≤ 2097152) (hk0 : 0 ≤ k) (hk1 : k ≤ 1073741824) (h1 : SpV n f w S v) :
    Calls Try.prog 29 #[v, .int .i64 k] w (Marks S (k + 2 * n) (fun w' => SpV n (markF k) w' S v) w) := by
  have H1 := Lib.hid h1
  refine h1.cases (fun a cap e0 e1 => ?_) (fun g cap hpos hcap e1 hg l1 hc1 hf1 => ?_)
  · subst e0 e1
    have HR := Lib.hid (show Marks S (k + 2 * (0 : Nat)) (fun w' => SpV 0 (markF k) w' S (.slice a 0 cap)) w (.returned (.int .i64 k)) w from ⟨by simp, RowV.congr h1 (fun j hj => by omega), Off.refl _ _⟩)
    clear h1
    go_enter Try.func29, Try.ntmps29
    go_wp2
    go_loopw [5, 1] (fun i q wr => i = .int .i64 0 ∧ q = .int .i64 k ∧ wr = w) (fun i _ _ => 0)
    case atStart => exact ⟨rfl, rfl, rfl⟩
    case round =>
      obtain ⟨rfl, rfl, rfl⟩ := hrel
      go_wp2
      go_ret
      exact HR.out
  · subst e1
    have HM := Lib.hid (show Mk g n 0 k w w from ⟨fun j hj => ⟨_, hc1 j hj, fun h => by omega⟩, hf1, Off.refl _ _, rfl⟩)
    clear h1 hc1 hf1
    go_enter Try.func29, Try.ntmps29
    go_wp2
    go_loopw [5, 1] (fun i q wr => ∃ j : Nat, j ≤ n ∧ i = .int .i64 j ∧ q = .int .i64 (k + 2 * j) ∧ Mk g n j k w wr) (fun i _ _ => n - (intOf i).toNat)
    case atStart => exact ⟨0, Nat.zero_le _, rfl, by simp, HM.out⟩
    case round =>
      obtain ⟨j, hj, rfl, rfl, hM⟩ := hrel
      have HM2 := Lib.hid hM
      by_cases hlt : j < n
      · obtain ⟨u0, hu0, _⟩ := hM.1 (j * 2) (by omega)
        obtain ⟨u1, hu1, _⟩ := hM.1 (j * 2 + 1) (by omega)
        have hs0 := hM.2.1 (j * 2)
        have hs1 := hM.2.1 (j * 2 + 1)
        have hi0 : (0 : Int) ≤ (j : Int) := Int.natCast_nonneg _
        have hi1 : (j : Int) < (n : Int) := by omega
        clear hM
        go_wp2
        go_roundw
        case rel => exact ⟨j + 1, by omega, by go_num, by simp; omega, HM2.out.put hlt⟩
        case measure => simp [intOf]; omega
      · obtain rfl : j = n := by omega
        have HR := Lib.hid (show Marks S (k + 2 * (j : Nat)) (fun w' => SpV j (markF k) w' S (.slice (some ⟨g, 0, none⟩) j cap)) w (.returned (.int .i64 (k + 2 * j))) wr from
          ⟨rfl, ⟨fun x hx => by have := H1.out.1 x hx; have := hM.2.2.1.size; omega, _, _, rfl, hcap, fun _ => ⟨g, rfl, hg, fun i hi => by obtain ⟨u, hu, e⟩ := hM.1 i hi; rw [hu, e hi], hM.2.1⟩⟩, hM.2.2.1.more (fun x hx => by rw [hx]; exact hg)⟩)
        clear hM
        go_wp2
        go_ret
        exact HR.out

set_option maxHeartbeats 1600000 in
theorem heldS_v {n : Nat} {v : Value} {S : Nat → Prop} {w : World} {k : Int} (hn : n ≤ 2097152) (hk0 : 0 ≤ k) (hk1 : k ≤ 1073741824) (h1 : SpV n (markF k) w S v) :
    Calls Try.prog 30 #[v, .int .i64 k] w fun e w' => e = .returned (.int .i64 (k + 2 * n)) ∧ Below w.heap.size w w' := by
  refine h1.cases (fun a cap e0 e1 => ?_) (fun g cap hpos hcap e1 hg l1 hc1 hf1 => ?_)
  · subst e0 e1
    clear h1
    go_enter Try.func30, Try.ntmps30
    go_wp2
    go_loopw [5, 1] (fun i q wr => i = .int .i64 0 ∧ q = .int .i64 k ∧ wr = w) (fun i _ _ => 0)
    case atStart => exact ⟨rfl, rfl, rfl⟩
    case round =>
      obtain ⟨rfl, rfl, rfl⟩ := hrel
      go_wp2
      go_ret
      exact ⟨by simp, Below.refl _ _⟩
  · subst e1
    have H1 := Lib.hid (prow0 hc1)
    clear h1 hc1 hf1
    go_enter Try.func30, Try.ntmps30
    go_wp2
    go_loopw [5, 1] (fun i q wr => ∃ j : Nat, j ≤ n ∧ i = .int .i64 j ∧ q = .int .i64 (k + 2 * j) ∧ Below w.heap.size w wr) (fun i _ _ => n - (intOf i).toNat)
    case atStart => exact ⟨0, Nat.zero_le _, rfl, by simp, Below.refl _ _⟩
    case round =>
      obtain ⟨j, hj, rfl, rfl, hb⟩ := hrel
      have HB := Lib.hid hb
      by_cases hlt : j < n
      · have ⟨hd0, hd1⟩ := (H1.out.below hb l1).at0 hlt
        have hi0 : (0 : Int) ≤ (j : Int) := Int.natCast_nonneg _
        have hi1 : (j : Int) < (n : Int) := by omega
        unfold markF at hd0 hd1
        dsimp only at hd0 hd1
        clear hb
        go_wp2
        go_roundw
        case rel => exact ⟨j + 1, by omega, by go_num, by simp; omega, HB.out⟩
        case measure => simp [intOf]; omega
      · obtain rfl : j = n := by omega
        clear hb
        go_wp2
        go_ret
        exact ⟨rfl, HB.out⟩
end Go.Proofs.Ytglifjjoalkkbaa.SpanC
