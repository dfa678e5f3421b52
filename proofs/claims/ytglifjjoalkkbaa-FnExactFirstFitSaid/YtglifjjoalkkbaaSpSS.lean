/- Slices of slices of spans: conversion, comparison, marks: contracts. -/
import Derived.Test.YtglifjjoalkkbaaSpVals
import Derived.Test.YtglifjjoalkkbaaSpOpen
namespace Go.Proofs.Ytglifjjoalkkbaa.SpanC
open Go.RowKit KeptC RowC ValC
set_option linter.unusedSimpArgs false
set_option linter.unusedVariables false

/-- m rows in block g, row i in block G i: N i spans as F i says -/
structure RRow (W : World) (g m : Nat) (N : Nat → Nat) (F : Nat → Nat → Int × Int) (G : Nat → Nat) : Prop where
  cell : ∀ i, i < m → W.cell? ⟨g, i, none⟩ = some (.slice (some ⟨G i, 0, none⟩) (N i) (N i))
  row : ∀ i, i < m → PRow W (G i) 0 (N i) (F i)
  lt : ∀ i, i < m → G i < W.heap.size
  glt : g < W.heap.size
theorem RRow.below {W W' : World} {g m : Nat} {N : Nat → Nat} {F : Nat → Nat → Int × Int} {G : Nat → Nat} (h : RRow W g m N F G) (hb : Below W.heap.size W W') : RRow W' g m N F G :=
  ⟨fun i hi => (hb.cell (p := ⟨g, i, none⟩) h.glt).trans (h.cell i hi), fun i hi => (h.row i hi).below hb (h.lt i hi), fun i hi => Nat.lt_of_lt_of_le (h.lt i hi) hb.size, Nat.lt_of_lt_of_le h.glt hb.size⟩
/-- what marking wants: all of it soft, no block twice -/
structure RSoft (W : World) (g m : Nat) (G : Nat → Nat) : Prop where
  soft : ∀ i, i < m → ∀ j, W.frozen? ⟨G i, j, none⟩ = false
  gt : ∀ i, i < m → g < G i
  inc : ∀ i j, i < j → j < m → G i < G j
theorem RSoft.below {W W' : World} {g m : Nat} {N : Nat → Nat} {F : Nat → Nat → Int × Int} {G : Nat → Nat} (h : RSoft W g m G) (hr : RRow W g m N F G) (hb : Below W.heap.size W W') : RSoft W' g m G :=
  ⟨fun i hi j => (hb.frozen (p := ⟨G i, j, none⟩) (hr.lt i hi)).trans (h.soft i hi j), h.gt, h.inc⟩

theorem infoSS : (Try.prog.info? 23).map (fun i => (i.zero, i.size, i.bytes)) = some (some (.slice none 0 0), 1, 24) := by kernel_rfl
def zeroSS (n : Nat) : Array Value := madeCells #[.slice none 0 0] (n * 1)
theorem make_ss (n : Nat) (hn : n ≤ 1048576) : ∀ W : World, (Instr.makeSlice 29 (.int .i64 (n : Int)) (.int .i64 (n : Int))).run Try.prog W = .ok (.slice (some ⟨W.heap.size, 0, none⟩) n n) (W.alloc (.cells (zeroSS n) 23)) := by
  intro W
  obtain ⟨i, hi, hz, hs, hb⟩ : ∃ i, Try.prog.info? 23 = some i ∧ i.zero = some (.slice none 0 0) ∧ i.size = 1 ∧ i.bytes = 24 := by
    have h := infoSS
    cases hx : Try.prog.info? 23 with
    | none => rw [hx] at h; simp at h
    | some i => rw [hx] at h; simp at h; exact ⟨i, rfl, h.1, h.2.1, h.2.2⟩
  have hr := run_make (P := Try.prog) W 29 23 i _ Try.underlying29 hi hz .i64 .i64 n n (by omega) (by omega) (by rw [hb]; omega) (by omega)
  rw [hs] at hr
  simp only [Int.toNat_natCast] at hr
  exact hr
theorem zeroSS_size (n : Nat) : (zeroSS n).size = n := by unfold zeroSS; simp [madeCells]

/-- rows that are being made: the first k are there -/
structure FillR (w : World) (m : Nat) (N : Nat → Nat) (F : Nat → Nat → Int × Int) (G : Nat → Nat) (k : Nat) (W : World) : Prop where
  cells : ∀ j, j < m → ∃ u, W.cell? ⟨w.heap.size, j, none⟩ = some u ∧ (j < k → u = .slice (some ⟨G j, 0, none⟩) (N j) (N j))
  row : ∀ j, j < k → PRow W (G j) 0 (N j) (F j)
  lt : ∀ j, j < k → G j < W.heap.size
  softs : ∀ j, j < k → ∀ i, W.frozen? ⟨G j, i, none⟩ = false
  gt : ∀ j, j < k → w.heap.size < G j
  inc : ∀ i j, i < j → j < k → G i < G j
  soft : ∀ j, W.frozen? ⟨w.heap.size, j, none⟩ = false
  below : Below w.heap.size w W
  glt : w.heap.size < W.heap.size
theorem FillR.new (w : World) (m : Nat) (N : Nat → Nat) (F : Nat → Nat → Int × Int) (G : Nat → Nat) : FillR w m N F G 0 (w.alloc (.cells (zeroSS m) 23)) := by
  refine ⟨fun j hj => ?_, fun j h => absurd h (Nat.not_lt_zero _), fun j h => absurd h (Nat.not_lt_zero _), fun j h => absurd h (Nat.not_lt_zero _), fun j h => absurd h (Nat.not_lt_zero _), fun i j _ h => absurd h (Nat.not_lt_zero _), fun j => by simp, (Below.refl _ _).alloc (Nat.le_refl _) _, by simp⟩
  have hz := zeroSS_size m
  exact ⟨(zeroSS m)[j]'(by omega), by simp [World.cell?_alloc_new, show j < (zeroSS m).size by omega], fun h => absurd h (Nat.not_lt_zero _)⟩
/-- one row more: it was made in the world W, it lies in W1, its slice is stored -/
theorem FillR.put {w W W1 : World} {m k : Nat} {N : Nat → Nat} {F : Nat → Nat → Int × Int} {G : Nat → Nat} (h : FillR w m N F G k W) (hk : k < m) (hF : Fill W (N k) (F k) (N k) W1) :
    FillR w m N F (fun j => if j = k then W.heap.size else G j) (k + 1) (W1.setCell ⟨w.heap.size, k, none⟩ (.slice (some ⟨W.heap.size, 0, none⟩) (N k) (N k))) := by
  have hb := hF.below
  have hgl := h.glt
  have hl1 := hF.lt
  have old : ∀ p : Addr, p.block < W.heap.size → p.block ≠ w.heap.size → (W1.setCell ⟨w.heap.size, k, none⟩ (.slice (some ⟨W.heap.size, 0, none⟩) (N k) (N k))).cell? p = W.cell? p := fun p hp hn => by
    rw [World.cell?_setCell_other _ _ _ _ (fun e => hn (by rw [← e])), hb.cell hp]
  have new : ∀ j, (W1.setCell ⟨w.heap.size, k, none⟩ (.slice (some ⟨W.heap.size, 0, none⟩) (N k) (N k))).cell? ⟨W.heap.size, j, none⟩ = W1.cell? ⟨W.heap.size, j, none⟩ := fun j => World.cell?_setCell_other _ _ _ _ (fun e => by injection e with e; omega)
  refine ⟨fun j hj => ?_, fun j hj => ?_, fun j hj => ?_, fun j hj i => ?_, fun j hj => ?_, fun i j hij hj => ?_, fun j => ?_, ?_, ?_⟩
  · obtain ⟨u, hu, hj2⟩ := h.cells j hj
    have hu1 : W1.cell? ⟨w.heap.size, j, none⟩ = some u := (hb.cell (p := ⟨w.heap.size, j, none⟩) hgl).trans hu
    by_cases e : j = k
    · subst e
      exact ⟨_, World.cell?_setCell_same' _ _ _ (by rw [hu1]; rfl), fun _ => by simp⟩
    · refine ⟨u, ?_, fun h2 => ?_⟩
      · rw [World.cell?_setCell_other _ _ _ _ (fun e2 => e (by injection e2 with e3 e4; omega))]; exact hu1
      · rw [hj2 (by omega)]; simp [e]
  · by_cases e : j = k
    · subst e
      simp only [if_true]
      intro i hi
      rw [new, new]
      exact hF.row i hi
    · simp only [e, if_false]
      intro i hi
      have hl := h.lt j (by omega)
      have hg := h.gt j (by omega)
      have hr := h.row j (by omega) i hi
      exact ⟨(old ⟨G j, _, none⟩ hl (by show G j ≠ _; omega)).trans hr.1, (old ⟨G j, _, none⟩ hl (by show G j ≠ _; omega)).trans hr.2⟩
  · by_cases e : j = k
    · simp only [e, if_true]; simpa using hl1
    · simp only [e, if_false]
      have := h.lt j (by omega)
      have := hb.size
      simp
      omega
  · by_cases e : j = k
    · simp only [e, if_true]; simpa using hF.soft i
    · simp only [e, if_false]
      have := (hb.frozen (p := ⟨G j, i, none⟩) (h.lt j (by omega))).trans (h.softs j (by omega) i)
      simpa using this
  · by_cases e : j = k
    · simp only [e, if_true]; exact hgl
    · simp only [e, if_false]; exact h.gt j (by omega)
  · have ei : i ≠ k := by omega
    simp only [ei, if_false]
    by_cases e : j = k
    · simp only [e, if_true]; exact h.lt i (by omega)
    · simp only [e, if_false]; exact h.inc i j hij (by omega)
  · have := (hb.frozen (p := ⟨w.heap.size, j, none⟩) hgl).trans (h.soft j)
    simpa using this
  · exact (h.below.trans (hb.mono (Nat.le_of_lt hgl))).setCell (Nat.le_refl _) _
  · have := hb.size
    simp
    omega
theorem FillR.rrow {w W : World} {m : Nat} {N : Nat → Nat} {F : Nat → Nat → Int × Int} {G : Nat → Nat} (h : FillR w m N F G m W) : RRow W w.heap.size m N F G ∧ RSoft W w.heap.size m G :=
  ⟨⟨fun i hi => by obtain ⟨u, hu, e⟩ := h.cells i hi; rw [hu, e hi], h.row, h.lt, h.glt⟩, ⟨h.softs, h.gt, h.inc⟩⟩

/-- a slice of slices of spans that came in -/
def RowsIn (w : World) (a : Option Addr) (m cap : Nat) (N : Nat → Nat) (F : Nat → Nat → Int × Int) : Prop :=
  m ≤ cap ∧ cap ≤ maxLen ∧ (m = 0 ∨ ∃ b o, a = some ⟨b, o, none⟩ ∧ b < w.heap.size ∧ ∀ i, i < m → ∃ ai ci, w.cell? ⟨b, o + i, none⟩ = some (.slice ai (N i) ci) ∧ PairsIn w ai (N i) ci (F i))
def MadeRows (w : World) (m : Nat) (N : Nat → Nat) (F : Nat → Nat → Int × Int) (e : Ending) (w' : World) : Prop := e = .returned (.slice (some ⟨w.heap.size, 0, none⟩) m m) ∧ ∃ G, FillR w m N F G m w'

theorem pairsIn_below {w W : World} {a : Option Addr} {n cap : Nat} {f : Nat → Int × Int} (h : PairsIn w a n cap f) (hb : Below w.heap.size w W) : PairsIn W a n cap f := by
  obtain ⟨h1, h2, h3⟩ := h
  refine ⟨h1, h2, ?_⟩
  rcases h3 with h3 | ⟨b, o, h3, h4, h5⟩
  · exact .inl h3
  · exact .inr ⟨b, o, h3, h4.below hb h5, Nat.lt_of_lt_of_le h5 hb.size⟩

set_option maxHeartbeats 1600000 in
theorem toSS_new {w W : World} {a : Option Addr} {m cap : Nat} {N : Nat → Nat} {F : Nat → Nat → Int × Int} (h : RowsIn w a m cap N F) (hm : m ≤ 1048576) (hN : ∀ i, i < m → N i ≤ 1048576) (hb : Below w.heap.size w W) :
    Calls Try.prog 32 #[.slice a m cap] W (MadeRows W m N F) := by
  have hmk := make_ss m hm
  obtain ⟨hl, hc, hin⟩ := h
  rcases hin with rfl | ⟨b, o, rfl, hbl, hin⟩
  · have hmk : ∀ W : World, (Instr.makeSlice 29 (.int .i64 0) (.int .i64 0)).run Try.prog W = .ok (.slice (some ⟨W.heap.size, 0, none⟩) 0 0) (W.alloc (.cells (zeroSS 0) 23)) := make_ss 0 (by omega)
    go_enter Try.func32, Try.ntmps32
    go_wp2
    go_loopw [4] (fun i wr => i = .int .i64 0 ∧ FillR W 0 N F (fun _ => 0) 0 wr) (fun i _ => 0)
    case atStart => exact ⟨rfl, FillR.new _ _ _ _ _⟩
    case round =>
      obtain ⟨rfl, hF⟩ := hrel
      have HF := Lib.hid hF
      clear hF hmk
      go_wp2
      go_ret
      exact ⟨rfl, _, HF.out⟩
  · have HIN := Lib.hid hin
    have HB := Lib.hid hb
    clear hin hb
    go_enter Try.func32, Try.ntmps32
    go_wp2
    go_loopw [4] (fun i wr => ∃ k : Nat, k ≤ m ∧ i = .int .i64 k ∧ ∃ G, FillR W m N F G k wr) (fun i _ => m - (intOf i).toNat)
    case atStart => exact ⟨0, Nat.zero_le _, rfl, fun _ => 0, FillR.new _ _ _ _ _⟩
    case round =>
      obtain ⟨k, hk, rfl, G, hF⟩ := hrel
      by_cases hlt : k < m
      · obtain ⟨ai, ci, hci, hpi⟩ := HIN.out k hlt
        have hbw : Below w.heap.size w wr := HB.out.trans (hF.below.mono HB.out.size)
        have hcell : wr.cell? ⟨b, o + k, none⟩ = some (.slice ai (N k) ci) := (hbw.cell (p := ⟨b, o + k, none⟩) hbl).trans hci
        have HC := Lib.hid (pairs_to (w := wr) (pairsIn_below hpi hbw) (hN k hlt) wr (Below.refl _ _))
        have HF := Lib.hid hF
        have hi0 : (0 : Int) ≤ (k : Int) := Int.natCast_nonneg _
        have hi1 : (k : Int) < (m : Int) := by omega
        clear hF hmk hci hpi hbw
        go_wp2_with fail
        refine HC.out.mono ?_
        rintro e w1 ⟨rfl, hFk⟩
        have HP := Lib.hid (HF.out.put hlt hFk)
        obtain ⟨u, hu, _⟩ := HF.out.cells k hlt
        have hu1 : w1.cell? ⟨W.heap.size, k, none⟩ = some u := (hFk.below.cell (p := ⟨W.heap.size, k, none⟩) HF.out.glt).trans hu
        have hs1 : w1.frozen? ⟨W.heap.size, k, none⟩ = false := (hFk.below.frozen (p := ⟨W.heap.size, k, none⟩) HF.out.glt).trans (HF.out.soft k)
        clear hFk hu
        go_wp2
        go_roundw
        case rel => exact ⟨k + 1, by omega, by go_num, _, HP.out⟩
        case measure => simp [intOf]; omega
      · obtain rfl : k = m := by omega
        have HF := Lib.hid hF
        clear hF hmk
        go_wp2
        go_ret
        exact ⟨rfl, _, HF.out⟩

set_option maxHeartbeats 1600000 in
theorem eqSS_v {g g' m : Nat} {N : Nat → Nat} {F : Nat → Nat → Int × Int} {G G' : Nat → Nat} {w : World} (hm : m ≤ 1048576) (hN : ∀ i, i < m → N i ≤ 1048576) (h1 : RRow w g m N F G) (h2 : RRow w g' m N F G') :
    Calls Try.prog 33 #[.slice (some ⟨g, 0, none⟩) m m, .slice (some ⟨g', 0, none⟩) m m] w (IsB true w) := by
  have H1 := Lib.hid h1
  have H2 := Lib.hid h2
  clear h1 h2
  go_enter Try.func33, Try.ntmps33
  go_wp2
  go_loopw [5] (fun i wr => ∃ k : Nat, k ≤ m ∧ i = .int .i64 k ∧ Below w.heap.size w wr) (fun i _ => m - (intOf i).toNat)
  case atStart => exact ⟨0, Nat.zero_le _, rfl, Below.refl _ _⟩
  case round =>
    obtain ⟨k, hk, rfl, hb⟩ := hrel
    have HB := Lib.hid hb
    have hsz := hb.size
    by_cases hlt : k < m
    · have HR1 := Lib.hid (H1.out.below hb)
      have HR2 := Lib.hid (H2.out.below hb)
      have hc0 := HR1.out.cell k hlt
      have hd0 := HR2.out.cell k hlt
      have l1 := HR1.out.glt
      have l2 := HR2.out.glt
      have hi0 : (0 : Int) ≤ (k : Int) := Int.natCast_nonneg _
      have hi1 : (k : Int) < (m : Int) := by omega
      clear hb
      go_wp2_with fail
      go_region_held3 (fun W => W.cell? ⟨g, k, none⟩ = some (.slice (some ⟨G k, 0, none⟩) (N k) (N k)) ∧ W.cell? ⟨g', k, none⟩ = some (.slice (some ⟨G' k, 0, none⟩) (N k) (N k)) ∧ Below w.heap.size w W)
        (first | exact ⟨(hb.cell (p := ⟨g, k, none⟩) l1).trans hc0, (hb.cell (p := ⟨g', k, none⟩) l2).trans hd0, HB.out.drew.trans (hb.mono hsz)⟩ | exact ⟨hc0, hd0, HB.out.drew⟩)
        (first | (go_at_call 27; refine (eqS (G k) (G' k) (N k) (F k) _ (hN k hlt) (by exact HR1.out.row k hlt) (by exact HR2.out.row k hlt) (by exact HR1.out.lt k hlt) (by exact HR2.out.lt k hlt)).mono ?_; rintro e w1 ⟨rfl, hb⟩))
      all_goals
        have HB2 := Lib.hid (HB.out.drew.trans (hb.mono hsz))
        clear hb
        go_wp2
        go_roundw
        case rel => exact ⟨k + 1, by omega, by go_num, HB2.out⟩
        case measure => simp [intOf]; omega
    · clear hb
      go_wp2
      go_ret
      exact ⟨rfl, HB.out⟩

def tot (N : Nat → Nat) : Nat → Nat
  | 0 => 0
  | k + 1 => tot N k + N k
theorem tot_mono (N : Nat → Nat) {i j : Nat} (h : i ≤ j) : tot N i ≤ tot N j := by
  induction j with
  | zero => obtain rfl : i = 0 := by omega
            exact Nat.le_refl _
  | succ j ih =>
    by_cases e : i = j + 1
    · subst e; exact Nat.le_refl _
    · have := ih (by omega)
      simp only [tot]
      omega
theorem tot_at (N : Nat → Nat) {i m : Nat} (h : i < m) : N i ≤ tot N m := by
  have := tot_mono N (show i + 1 ≤ m by omega)
  simp only [tot] at this
  omega

set_option maxHeartbeats 1600000 in
theorem markSS_v {g m : Nat} {N : Nat → Nat} {F : Nat → Nat → Int × Int} {G : Nat → Nat} {w : World} (hm : m ≤ 1048576) (hT : tot N m ≤ 1048576) (h1 : RRow w g m N F G) (h2 : RSoft w g m G) :
    Calls Try.prog 35 #[.slice (some ⟨g, 0, none⟩) m m, .int .i64 1] w fun e w' => e = .returned (.int .i64 (1 + 2 * (tot N m : Nat))) ∧ Off (fun x => ∃ i, i < m ∧ x = G i) w w' := by
  have H1 := Lib.hid h1
  have H2 := Lib.hid h2
  clear h1 h2
  go_enter Try.func35, Try.ntmps35
  go_wp2
  go_loopw [5, 1] (fun i q wr => ∃ j : Nat, j ≤ m ∧ i = .int .i64 j ∧ q = .int .i64 (1 + 2 * (tot N j : Nat)) ∧ Off (fun x => ∃ i, i < j ∧ x = G i) w wr) (fun i _ _ => m - (intOf i).toNat)
  case atStart => exact ⟨0, Nat.zero_le _, rfl, rfl, Off.refl _ _⟩
  case round =>
    obtain ⟨j, hj, rfl, rfl, ho⟩ := hrel
    have HO := Lib.hid ho
    by_cases hlt : j < m
    · have hmj := tot_mono N (show j + 1 ≤ m by omega)
      simp only [tot] at hmj
      have hgc : wr.cell? ⟨g, j, none⟩ = some (.slice (some ⟨G j, 0, none⟩) (N j) (N j)) :=
        (World.cell?_of_block (a := ⟨g, j, none⟩) (ho.block g H1.out.glt (by rintro ⟨i, hi, e⟩; have := H2.out.gt i (by omega); omega))).trans (H1.out.cell j hlt)
      have hblk : wr.heap[G j]? = w.heap[G j]? := ho.block (G j) (H1.out.lt j hlt) (by rintro ⟨i, hi, e⟩; have := H2.out.inc i j hi hlt; omega)
      have HV := Lib.hid (show SpV (N j) (F j) wr (fun x => x = G j) (.slice (some ⟨G j, 0, none⟩) (N j) (N j)) from
        ⟨fun x hx => by have := H1.out.lt j hlt; have := ho.size; omega, _, _, rfl, Nat.le_refl _, fun _ => ⟨G j, rfl, rfl, fun i hi => (World.cell?_of_block (a := ⟨G j, i, none⟩) hblk).trans (by simpa using (H1.out.row j hlt).cells i hi), fun i => (World.frozen?_of_block (a := ⟨G j, i, none⟩) hblk).trans (H2.out.soft j hlt i)⟩⟩)
      have hi0 : (0 : Int) ≤ (j : Int) := Int.natCast_nonneg _
      have hi1 : (j : Int) < (m : Int) := by omega
      clear ho hblk
      go_wp2_with fail
      refine (markS_v (n := N j) (k := 1 + 2 * (tot N j : Nat)) (by omega) (by omega) (by omega) HV.out).mono ?_
      intro e w1 h
      obtain ⟨rfl, _, ho⟩ := marks_elim h
      have HO2 := Lib.hid (show Off (fun x => ∃ i, i < j + 1 ∧ x = G i) w w1 from (HO.out.more (fun x ⟨i, hi, e⟩ => ⟨i, by omega, e⟩)).trans (ho.more (fun x e => ⟨j, by omega, e⟩)))
      clear h ho
      go_wp2
      go_roundw
      case rel => exact ⟨j + 1, by omega, by go_num, by simp [tot]; omega, HO2.out⟩
      case measure => simp [intOf]; omega
    · obtain rfl : j = m := by omega
      clear ho
      go_wp2
      go_ret
      exact ⟨rfl, HO.out⟩

theorem szS2 (a : Option Addr) (n cap : Nat) (l : Int) (w : World) (h0 : 0 ≤ l) (h1 : l ≤ 1048576) (hn : n ≤ 9223372036854775807) :
    Calls Try.prog 25 #[.slice a n cap, .int .i64 l] w fun e w' => e = .returned (.int .i64 (if n ≤ l then l - n else -1)) ∧ w = w' := by
  by_cases h : (n : Int) ≤ l
  · rw [if_pos h]
    go_enter Try.func25, Try.ntmps25
    go_wp2
    go_ret
    exact ⟨rfl, rfl⟩
  · rw [if_neg h]
    go_enter Try.func25, Try.ntmps25
    go_wp2
    go_ret
    exact ⟨rfl, rfl⟩

def szV (s : Nat) : Int := if s ≤ 1048576 then 1048576 - s else -1
theorem szV_yes {s : Nat} (h : s ≤ 1048576) : szV s = 1048576 - s := if_pos h
theorem szV_no {s : Nat} (h : ¬ s ≤ 1048576) : szV s = -1 := if_neg h
def SzR (s : Nat) (w : World) (e : Ending) (w' : World) : Prop := e = .returned (.int .i64 (szV s)) ∧ w = w'
set_option maxHeartbeats 1600000 in
theorem szSS_v {w : World} {a : Option Addr} {m cap : Nat} {N : Nat → Nat} {F : Nat → Nat → Int × Int} (h : RowsIn w a m cap N F) :
    Calls Try.prog 31 #[.slice a m cap, .int .i64 1048576] w (SzR (m + tot N m) w) := by
  obtain ⟨hl, hc, hin⟩ := h
  unfold maxLen at hc
  by_cases hm : m ≤ 1048576
  · rcases hin with rfl | ⟨b, o, rfl, hbl, hin⟩
    · go_enter Try.func31, Try.ntmps31
      go_wp2
      go_loopw [5, 1] (fun i q wr => i = .int .i64 0 ∧ q = .int .i64 1048576 ∧ wr = w) (fun i _ _ => 0)
      case atStart => exact ⟨rfl, rfl, rfl⟩
      case round =>
        obtain ⟨rfl, rfl, rfl⟩ := hrel
        go_wp2
        go_ret
        exact ⟨by rw [szV_yes (by simp [tot])]; simp [tot], rfl⟩
    · have HIN := Lib.hid hin
      clear hin
      go_enter Try.func31, Try.ntmps31
      go_wp2
      go_loopw [5, 1] (fun i q wr => ∃ j : Nat, j ≤ m ∧ m + tot N j ≤ 1048576 ∧ i = .int .i64 j ∧ q = .int .i64 (1048576 - m - (tot N j : Nat)) ∧ wr = w) (fun i _ _ => m - (intOf i).toNat)
      case atStart => exact ⟨0, Nat.zero_le _, by simp [tot]; omega, rfl, by simp [tot], by first | rfl | trivial⟩
      case round =>
        obtain ⟨j, hj, hsum, rfl, rfl, rfl⟩ := hrel
        by_cases hlt : j < m
        · obtain ⟨ai, ci, hci, hp1, hp2, _⟩ := HIN.out j hlt
          unfold maxLen at hp2
          have hs := fun W => szS2 ai (N j) ci (1048576 - m - (tot N j : Nat)) W (by omega) (by omega) (by omega)
          have hi0 : (0 : Int) ≤ (j : Int) := Int.natCast_nonneg _
          have hi1 : (j : Int) < (m : Int) := by omega
          have hmj := tot_mono N (show j + 1 ≤ m by omega)
          by_cases hfit : (N j : Int) ≤ 1048576 - m - (tot N j : Nat)
          · rw [if_pos hfit] at hs
            have HQ := Lib.hid (show m + tot N (j + 1) ≤ 1048576 by simp only [tot]; omega)
            have HE := Lib.hid (show (1048576 - (m : Int) - (tot N j : Nat) - (N j : Nat)) = 1048576 - m - (tot N (j + 1) : Nat) by simp only [tot]; omega)
            go_wp2_with fail
            refine (hs _).mono ?_
            rintro e w1 ⟨rfl, rfl⟩
            clear hs
            go_wp2
            go_roundw
            case rel => exact ⟨j + 1, by omega, HQ.out, by go_num, by rw [HE.out], by first | rfl | trivial⟩
            case measure => simp [intOf]; omega
          · rw [if_neg hfit] at hs
            simp only [tot] at hmj
            have HZ := Lib.hid (szV_no (s := m + tot N m) (by omega))
            clear hmj
            go_wp2_with fail
            refine (hs _).mono ?_
            rintro e w1 ⟨rfl, rfl⟩
            clear hs
            go_wp2
            go_ret
            exact ⟨by rw [HZ.out]; rfl, rfl⟩
        · obtain rfl : j = m := by omega
          have HZ := Lib.hid (show (1048576 - (j : Int) - (tot N j : Nat)) = szV (j + tot N j) by rw [szV_yes hsum]; omega)
          go_wp2
          go_ret
          exact ⟨by rw [← HZ.out]; rfl, rfl⟩
  · have HZ := Lib.hid (szV_no (s := m + tot N m) (by omega))
    go_enter Try.func31, Try.ntmps31
    go_wp2
    go_ret
    exact ⟨by rw [HZ.out]; rfl, rfl⟩
end Go.Proofs.Ytglifjjoalkkbaa.SpanC
