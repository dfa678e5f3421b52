/- Letters sought, picked, and their words: the program: contracts. -/
import Derived.Test.YtknifggpodhhdaaDoorDkB
import Derived.Test.YtknifggpodhhdaaDoorAppN
namespace Go.Proofs.YtknifggpodhhdaaDoor.RepC
open Go.RowKit RowC ValC SpanC KeptC
set_option linter.unusedVariables false
set_option linter.unusedSimpArgs false

def IxR (p : Prop) (w : World) (e : Ending) (w' : World) : Prop := ∃ i : Int, e = .returned (.int .i64 i) ∧ (0 ≤ i ↔ p) ∧ Below w.heap.size w w'
theorem ixR_elim {p : Prop} {w : World} {e : Ending} {w' : World} (h : IxR p w e w') : ∃ i : Int, e = .returned (.int .i64 i) ∧ (0 ≤ i ↔ p) ∧ Below w.heap.size w w' := h
theorem mem_step2 {A : List D_Letter} {y : D_Letter} {k : Nat} {x : D_Letter} (hA : y ∉ A.take k) (hx : A[k]? = some x) (h : (y == x) = false) : y ∉ A.take (k + 1) := by
  rw [List.take_add_one, hx]
  simp only [Option.toList_some, List.mem_append, List.mem_singleton, not_or]
  exact ⟨hA, fun e => by subst e; simp at h⟩
theorem filter_step {α : Type} (p : α → Bool) {L : List α} {k : Nat} {x : α} (hx : L[k]? = some x) : (L.take (k + 1)).filter p = (L.take k).filter p ++ (if p x then [x] else []) := by
  rw [List.take_add_one, hx, Option.toList_some, List.filter_append]
  congr 1
  simp [List.filter]
  split <;> simp_all
set_option maxRecDepth 100000 in
set_option maxHeartbeats 3200000 in
theorem index_letter {L : List D_Letter} {la : Option Addr} {lc : Nat} {y0 y1 y2 y3 y4 y5 : Int} {W : World} (hL : RdSl R_Letter W W.heap.size L la lc) :
    Calls Tryd.prog 101 #[.slice la L.length lc, .agg #[.int .i64 y0, .int .i64 y1, .int .i64 y2, .int .i64 y3, .int .i64 y4, .int .i64 y5]] W (IxR (((y0, y1), (y2, y3), y4, y5) ∈ L) W) := by
  have hn : L.length ≤ 9223372036854775807 := by have h1 := hL.1; have h2 := hL.2.1; unfold maxLen at h2; omega
  have H := Lib.hid hL
  clear hL
  obtain ⟨hb0, hp0⟩ := bx1 W #[.int .i64 y0, .int .i64 y1, .int .i64 y2, .int .i64 y3, .int .i64 y4, .int .i64 y5] 87
  have HB0 := Lib.hid hb0
  have HP0 := Lib.hid hp0
  clear hb0 hp0
  go_enter Tryd.func101, Tryd.ntmps101
  go_wp2
  go_loopw [8] (fun i wr => ∃ k : Nat, k ≤ L.length ∧ i = .int .i64 k ∧ Hid (((y0, y1), (y2, y3), y4, y5) ∉ L.take k) ∧ Below W.heap.size W wr ∧ Hid (Blk wr W.heap.size 87 #[.int .i64 y0, .int .i64 y1, .int .i64 y2, .int .i64 y3, .int .i64 y4, .int .i64 y5])) (fun i _ => L.length - (intOf i).toNat)
  case atStart => exact ⟨0, Nat.zero_le _, rfl, Lib.hid (by simp), HB0.out, HP0⟩
  case round =>
    obtain ⟨k, hk, rfl, HA, hB, HP⟩ := hrel
    have HB := Lib.hid hB
    have hsz := hB.size
    by_cases hlt : k < L.length
    · obtain ⟨⟨⟨x0, x1⟩, ⟨x2, x3⟩, x4, x5⟩, hx⟩ := el_some hlt
      have Hhx := Lib.hid hx
      obtain ⟨g, o, us, rfl, hgg, hu, hr⟩ := (H.out.below R_Letter_ok hB).at_ hx
      obtain rfl := rd_Letter hr
      have e0 : wr.cell? ⟨g, o + k * 6, none⟩ = some (.int .i64 x0) := by simpa [size_LetterS, Nat.add_assoc] using hu 0 _ rfl
      have e1 : wr.cell? ⟨g, o + k * 6 + 1, none⟩ = some (.int .i64 x1) := by simpa [size_LetterS, Nat.add_assoc] using hu 1 _ rfl
      have e2 : wr.cell? ⟨g, o + k * 6 + 2, none⟩ = some (.int .i64 x2) := by simpa [size_LetterS, Nat.add_assoc] using hu 2 _ rfl
      have e3 : wr.cell? ⟨g, o + k * 6 + 3, none⟩ = some (.int .i64 x3) := by simpa [size_LetterS, Nat.add_assoc] using hu 3 _ rfl
      have e4 : wr.cell? ⟨g, o + k * 6 + 4, none⟩ = some (.int .i64 x4) := by simpa [size_LetterS, Nat.add_assoc] using hu 4 _ rfl
      have e5 : wr.cell? ⟨g, o + k * 6 + 5, none⟩ = some (.int .i64 x5) := by simpa [size_LetterS, Nat.add_assoc] using hu 5 _ rfl
      have hgl : g < wr.heap.size := Nat.lt_of_lt_of_le hgg hsz
      have hi0 : (0 : Int) ≤ (k : Int) := Int.natCast_nonneg _
      have hi1 : (k : Int) < (L.length : Int) := by omega
      clear hB hx hu hr
      obtain ⟨b1, h1⟩ : ∃ b, ((((y0, y1), (y2, y3), y4, y5) : D_Letter) == ((x0, x1), (x2, x3), x4, x5)) = b := ⟨_, rfl⟩
      have q1 := eq_letter_at h1
      have H1 := Lib.hid h1
      clear h1
      cases b1 with
      | false =>
        have HC := Lib.hid (mem_step2 HA.out Hhx.out H1.out)
        go_wp2_with fail
        refine wp_region_held_drew (S := (fun V => Below (wr).heap.size (wr) V)) (by kernel_rfl) ((Below.refl _ _).drew) (fun hHeld => ?_)
        (refine wpAnyH_take (i := 0) (v := ?hv73) rfl (by kernel_rfl) (by kernel_rfl) (by kernel_rfl) (fun _ _ _ h => h) (Or.inl ⟨by kernel_rfl, ?hy73⟩) hHeld ?hr73; case hy73 => (intro w hSw; (try dsimp only at hSw); have k0 := (hSw.cell (p := ⟨W.heap.size, 0, none⟩) HP.out.lt).trans (HP.out.at_ 0 rfl); have k1 := (hSw.cell (p := ⟨W.heap.size, 1, none⟩) HP.out.lt).trans (HP.out.at_ 1 rfl); have k2 := (hSw.cell (p := ⟨W.heap.size, 2, none⟩) HP.out.lt).trans (HP.out.at_ 2 rfl); have k3 := (hSw.cell (p := ⟨W.heap.size, 3, none⟩) HP.out.lt).trans (HP.out.at_ 3 rfl); have k4 := (hSw.cell (p := ⟨W.heap.size, 4, none⟩) HP.out.lt).trans (HP.out.at_ 4 rfl); have k5 := (hSw.cell (p := ⟨W.heap.size, 5, none⟩) HP.out.lt).trans (HP.out.at_ 5 rfl); clear hSw; go_simp; try with_reducible rfl))
        simp only [Act.put, List.getElem_toArray, List.getElem_cons_succ, List.getElem_cons_zero, List.setIfInBounds_toArray, List.set_cons_zero, List.set_cons_succ]
        (refine wpAnyH_take (i := 1) (v := ?hv74) rfl (by kernel_rfl) (by kernel_rfl) (by kernel_rfl) (fun _ _ _ h => h) (Or.inl ⟨by kernel_rfl, ?hy74⟩) hHeld ?hr74; case hy74 => (intro w hSw; (try dsimp only at hSw); go_simp; try with_reducible rfl))
        simp only [Act.put, List.getElem_toArray, List.getElem_cons_succ, List.getElem_cons_zero, List.setIfInBounds_toArray, List.set_cons_zero, List.set_cons_succ]
        (refine wpAnyH_take (i := 2) (v := ?hv75) rfl (by kernel_rfl) (by kernel_rfl) (by kernel_rfl) (fun _ _ _ h => h) (Or.inl ⟨by kernel_rfl, ?hy75⟩) hHeld ?hr75; case hy75 => (intro w hSw; (try dsimp only at hSw); go_simp; try with_reducible rfl))
        simp only [Act.put, List.getElem_toArray, List.getElem_cons_succ, List.getElem_cons_zero, List.setIfInBounds_toArray, List.set_cons_zero, List.set_cons_succ]
        (refine wpAnyH_take (i := 3) (v := ?hv76) rfl (by kernel_rfl) (by kernel_rfl) (by kernel_rfl) (fun _ _ _ h => h) (Or.inl ⟨by kernel_rfl, ?hy76⟩) hHeld ?hr76; case hy76 => (intro w hSw; (try dsimp only at hSw); go_simp; try with_reducible rfl))
        simp only [Act.put, List.getElem_toArray, List.getElem_cons_succ, List.getElem_cons_zero, List.setIfInBounds_toArray, List.set_cons_zero, List.set_cons_succ]
        (refine wpAnyH_take (i := 4) (v := ?hv77) rfl (by kernel_rfl) (by kernel_rfl) (by kernel_rfl) (fun _ _ _ h => h) (Or.inl ⟨by kernel_rfl, ?hy77⟩) hHeld ?hr77; case hy77 => (intro w hSw; (try dsimp only at hSw); have k0 := (hSw.cell (p := ⟨g, o + k * 6, none⟩) hgl).trans e0; have k1 := (hSw.cell (p := ⟨g, o + k * 6 + 1, none⟩) hgl).trans e1; have k2 := (hSw.cell (p := ⟨g, o + k * 6 + 2, none⟩) hgl).trans e2; have k3 := (hSw.cell (p := ⟨g, o + k * 6 + 3, none⟩) hgl).trans e3; have k4 := (hSw.cell (p := ⟨g, o + k * 6 + 4, none⟩) hgl).trans e4; have k5 := (hSw.cell (p := ⟨g, o + k * 6 + 5, none⟩) hgl).trans e5; clear hSw; go_simp; try with_reducible rfl))
        simp only [Act.put, List.getElem_toArray, List.getElem_cons_succ, List.getElem_cons_zero, List.setIfInBounds_toArray, List.set_cons_zero, List.set_cons_succ]
        (refine wpAnyH_take (i := 5) (v := ?hv78) rfl (by kernel_rfl) (by kernel_rfl) (by kernel_rfl) (fun _ _ _ h => h) (Or.inl ⟨by kernel_rfl, ?hy78⟩) hHeld ?hr78; case hy78 => (intro w hSw; (try dsimp only at hSw); go_simp; try with_reducible rfl))
        simp only [Act.put, List.getElem_toArray, List.getElem_cons_succ, List.getElem_cons_zero, List.setIfInBounds_toArray, List.set_cons_zero, List.set_cons_succ]
        refine wpAnyH_done (by kernel_rfl) ?_ _
        have HF := Lib.hid hHeld
        clear hHeld
        have HB3 := Lib.hid (HB.out.trans (HF.out.mono hsz))
        have HP3 := Lib.hid (HP.out.call HF.out)
        clear HF
        go_wp2
        go_roundw
        case rel => exact ⟨k + 1, by omega, by go_num, HC, HB3.out, HP3⟩
        case measure => simp [intOf]; omega
      | true =>
        have HY := Lib.hid (show ((y0, y1), (y2, y3), y4, y5) ∈ L from by rw [beq_iff_eq.1 H1.out]; exact List.mem_of_getElem? Hhx.out)
        go_wp2_with fail
        refine wp_region_held_drew (S := (fun V => Below (wr).heap.size (wr) V)) (by kernel_rfl) ((Below.refl _ _).drew) (fun hHeld => ?_)
        (refine wpAnyH_take (i := 0) (v := ?hv79) rfl (by kernel_rfl) (by kernel_rfl) (by kernel_rfl) (fun _ _ _ h => h) (Or.inl ⟨by kernel_rfl, ?hy79⟩) hHeld ?hr79; case hy79 => (intro w hSw; (try dsimp only at hSw); have k0 := (hSw.cell (p := ⟨W.heap.size, 0, none⟩) HP.out.lt).trans (HP.out.at_ 0 rfl); have k1 := (hSw.cell (p := ⟨W.heap.size, 1, none⟩) HP.out.lt).trans (HP.out.at_ 1 rfl); have k2 := (hSw.cell (p := ⟨W.heap.size, 2, none⟩) HP.out.lt).trans (HP.out.at_ 2 rfl); have k3 := (hSw.cell (p := ⟨W.heap.size, 3, none⟩) HP.out.lt).trans (HP.out.at_ 3 rfl); have k4 := (hSw.cell (p := ⟨W.heap.size, 4, none⟩) HP.out.lt).trans (HP.out.at_ 4 rfl); have k5 := (hSw.cell (p := ⟨W.heap.size, 5, none⟩) HP.out.lt).trans (HP.out.at_ 5 rfl); clear hSw; go_simp; try with_reducible rfl))
        simp only [Act.put, List.getElem_toArray, List.getElem_cons_succ, List.getElem_cons_zero, List.setIfInBounds_toArray, List.set_cons_zero, List.set_cons_succ]
        (refine wpAnyH_take (i := 1) (v := ?hv80) rfl (by kernel_rfl) (by kernel_rfl) (by kernel_rfl) (fun _ _ _ h => h) (Or.inl ⟨by kernel_rfl, ?hy80⟩) hHeld ?hr80; case hy80 => (intro w hSw; (try dsimp only at hSw); go_simp; try with_reducible rfl))
        simp only [Act.put, List.getElem_toArray, List.getElem_cons_succ, List.getElem_cons_zero, List.setIfInBounds_toArray, List.set_cons_zero, List.set_cons_succ]
        (refine wpAnyH_take (i := 2) (v := ?hv81) rfl (by kernel_rfl) (by kernel_rfl) (by kernel_rfl) (fun _ _ _ h => h) (Or.inl ⟨by kernel_rfl, ?hy81⟩) hHeld ?hr81; case hy81 => (intro w hSw; (try dsimp only at hSw); go_simp; try with_reducible rfl))
        simp only [Act.put, List.getElem_toArray, List.getElem_cons_succ, List.getElem_cons_zero, List.setIfInBounds_toArray, List.set_cons_zero, List.set_cons_succ]
        (refine wpAnyH_take (i := 3) (v := ?hv82) rfl (by kernel_rfl) (by kernel_rfl) (by kernel_rfl) (fun _ _ _ h => h) (Or.inl ⟨by kernel_rfl, ?hy82⟩) hHeld ?hr82; case hy82 => (intro w hSw; (try dsimp only at hSw); go_simp; try with_reducible rfl))
        simp only [Act.put, List.getElem_toArray, List.getElem_cons_succ, List.getElem_cons_zero, List.setIfInBounds_toArray, List.set_cons_zero, List.set_cons_succ]
        (refine wpAnyH_take (i := 4) (v := ?hv83) rfl (by kernel_rfl) (by kernel_rfl) (by kernel_rfl) (fun _ _ _ h => h) (Or.inl ⟨by kernel_rfl, ?hy83⟩) hHeld ?hr83; case hy83 => (intro w hSw; (try dsimp only at hSw); have k0 := (hSw.cell (p := ⟨g, o + k * 6, none⟩) hgl).trans e0; have k1 := (hSw.cell (p := ⟨g, o + k * 6 + 1, none⟩) hgl).trans e1; have k2 := (hSw.cell (p := ⟨g, o + k * 6 + 2, none⟩) hgl).trans e2; have k3 := (hSw.cell (p := ⟨g, o + k * 6 + 3, none⟩) hgl).trans e3; have k4 := (hSw.cell (p := ⟨g, o + k * 6 + 4, none⟩) hgl).trans e4; have k5 := (hSw.cell (p := ⟨g, o + k * 6 + 5, none⟩) hgl).trans e5; clear hSw; go_simp; try with_reducible rfl))
        simp only [Act.put, List.getElem_toArray, List.getElem_cons_succ, List.getElem_cons_zero, List.setIfInBounds_toArray, List.set_cons_zero, List.set_cons_succ]
        (refine wpAnyH_take (i := 5) (v := ?hv84) rfl (by kernel_rfl) (by kernel_rfl) (by kernel_rfl) (fun _ _ _ h => h) (Or.inl ⟨by kernel_rfl, ?hy84⟩) hHeld ?hr84; case hy84 => (intro w hSw; (try dsimp only at hSw); go_simp; try with_reducible rfl))
        simp only [Act.put, List.getElem_toArray, List.getElem_cons_succ, List.getElem_cons_zero, List.setIfInBounds_toArray, List.set_cons_zero, List.set_cons_succ]
        refine wpAnyH_done (by kernel_rfl) ?_ _
        have HF := Lib.hid hHeld
        clear hHeld
        have HB3 := Lib.hid (HB.out.trans (HF.out.mono hsz))
        clear HF
        go_wp2
        go_ret
        exact ⟨_, rfl, ⟨fun _ => HY.out, fun _ => hi0⟩, HB3.out⟩
    · have HN := Lib.hid (show ((y0, y1), (y2, y3), y4, y5) ∉ L from by have h := HA.out; rw [List.take_of_length_le (by omega)] at h; exact h)
      have hd : decide ((k : Int) < (L.length : Int)) = false := decide_eq_false (by omega)
      clear hB
      go_wp2
      go_ret
      exact ⟨_, rfl, ⟨fun h => by omega, fun h => absurd h HN.out⟩, HB.out⟩
set_option maxRecDepth 100000 in
set_option maxHeartbeats 1600000 in
theorem contains_letter {L : List D_Letter} {la : Option Addr} {lc : Nat} {y0 y1 y2 y3 y4 y5 : Int} {W : World} (hL : RdSl R_Letter W W.heap.size L la lc) :
    Calls Tryd.prog 91 #[.slice la L.length lc, .agg #[.int .i64 y0, .int .i64 y1, .int .i64 y2, .int .i64 y3, .int .i64 y4, .int .i64 y5]] W (ResB (((y0, y1), (y2, y3), y4, y5) ∈ L) W) := by
  obtain ⟨hb0, hp0⟩ := bx1 W #[.int .i64 y0, .int .i64 y1, .int .i64 y2, .int .i64 y3, .int .i64 y4, .int .i64 y5] 87
  have HB0 := Lib.hid hb0
  have H := Lib.hid (gmvS hL hb0)
  have HZ := HB0.out.size
  clear hL hb0 hp0
  go_enter Tryd.func91, Tryd.ntmps91
  go_wp2_with fail
  refine (index_letter H.out).mono ?_
  intro e w1 h
  obtain ⟨i, rfl, hi, hb⟩ := ixR_elim h
  have HB1 := Lib.hid (HB0.out.trans (hb.mono HZ))
  have HI := Lib.hid hi
  clear h hi hb
  by_cases h0 : 0 ≤ i
  · have hd : decide (0 ≤ i) = true := decide_eq_true h0
    have HY := Lib.hid (HI.out.1 h0)
    clear h0
    go_wp2
    go_ret
    exact resB_yes HY.out HB1.out
  · have hd : decide (0 ≤ i) = false := decide_eq_false h0
    have HY := Lib.hid (show ((y0, y1), (y2, y3), y4, y5) ∉ L from fun h => h0 (HI.out.2 h))
    clear h0
    go_wp2
    go_ret
    exact resB_no HY.out HB1.out
theorem within_at (n lo hi : Int) {b : Bool} (hb : isB n lo hi = b) (w : World) : Calls Tryd.prog 90 #[.int .i64 n, .int .i64 lo, .int .i64 hi] w fun e w' => e = .returned (.bool b) ∧ Below w.heap.size w w' := by
  subst hb
  unfold isB
  by_cases h1 : lo ≤ n
  · have d1 : decide (lo ≤ n) = true := decide_eq_true h1
    have d1' : decide (n ≥ lo) = true := decide_eq_true h1
    go_enter Tryd.func90, Tryd.ntmps90
    go_wp2
    go_ret
    exact ⟨by simp [d1], Below.refl _ _⟩
  · have d1 : decide (lo ≤ n) = false := decide_eq_false h1
    have d1' : decide (n ≥ lo) = false := decide_eq_false h1
    go_enter Tryd.func90, Tryd.ntmps90
    go_wp2
    go_ret
    exact ⟨by simp [d1], Below.refl _ _⟩
theorem isNow_at (n : Int) {b : Bool} (hb : isB n 0 999900 = b) (w : World) : Calls Tryd.prog 69 #[.int .i64 n] w fun e w' => e = .returned (.bool b) ∧ Below w.heap.size w w' := by
  go_enter Tryd.func69, Tryd.ntmps69
  go_wp2_with (go_at_call 90; refine (within_at n 0 999900 hb _).mono ?_; rintro e w' ⟨rfl, hb2⟩)
  go_ret
  exact ⟨rfl, hb2⟩
theorem word_at (n : Int) {b : Bool} (hb : isB n 0 1000000 = b) (w : World) : Calls Tryd.prog 85 #[.int .i64 n] w fun e w' => e = .returned (.bool b) ∧ Below w.heap.size w w' := by
  go_enter Tryd.func85, Tryd.ntmps85
  go_wp2_with (go_at_call 90; refine (within_at n 0 1000000 hb _).mono ?_; rintro e w' ⟨rfl, hb2⟩)
  go_ret
  exact ⟨rfl, hb2⟩
/-- the method of a query, and what it picks -/
def Picks (T : TypeId) (v : Value) (p : D_Letter → Bool) : Prop := ∃ f : Nat, (∀ w : World, (Go.method 304 T v "loop.example/g00658/impl.picks").run Tryd.prog w = .ok (f, v) w) ∧ (∀ (args : Array Value) (w : World), (callFunc f args).run Tryd.prog w = .ok (.enter f args) w) ∧
  ∀ (x0 x1 x2 x3 x4 x5 : Int) (w : World), Calls Tryd.prog f #[v, .agg #[.int .i64 x0, .int .i64 x1, .int .i64 x2, .int .i64 x3, .int .i64 x4, .int .i64 x5]] w fun e w' => e = .returned (.bool (p ((x0, x1), (x2, x3), x4, x5))) ∧ Below w.heap.size w w'
set_option maxRecDepth 100000 in
theorem picks_chan (f0 f1 t0 t1 : Int) : Picks 117 (.agg #[.int .i64 f0, .int .i64 f1, .int .i64 t0, .int .i64 t1]) (fun x => x.1 == (f0, f1) && x.2.1 == (t0, t1)) := by
  refine ⟨130, fun w => by kernel_rfl, fun args w => rfl, fun x0 x1 x2 x3 x4 x5 w => ?_⟩
  obtain ⟨hb0, _⟩ := bx2 w #[.int .i64 f0, .int .i64 f1, .int .i64 t0, .int .i64 t1] #[.int .i64 x0, .int .i64 x1, .int .i64 x2, .int .i64 x3, .int .i64 x4, .int .i64 x5] 117 87
  obtain ⟨b1, h1⟩ : ∃ b, (((x0, x1) : D_Label) == (f0, f1)) = b := ⟨_, rfl⟩
  obtain ⟨b2, h2⟩ : ∃ b, (((x2, x3) : D_Label) == (t0, t1)) = b := ⟨_, rfl⟩
  have q1 := eq_label_at h1
  have q2 := eq_label_at h2
  have HR := Lib.hid (show (((x0, x1) : D_Label) == (f0, f1) && ((x2, x3) : D_Label) == (t0, t1)) = (b1 && b2) from by rw [h1, h2])
  have HB0 := Lib.hid hb0
  clear h1 h2 hb0
  go_enter Tryd.func130, Tryd.ntmps130
  cases b1 with
  | false =>
    go_wp2
    go_ret
    exact ⟨by show _ = Ending.returned (Value.bool _); rw [HR.out]; rfl, HB0.out⟩
  | true =>
    go_wp2
    go_ret
    exact ⟨by show _ = Ending.returned (Value.bool _); rw [HR.out]; rfl, HB0.out⟩
set_option maxRecDepth 100000 in
theorem picks_at (n : Int) : Picks 120 (.agg #[.int .i64 n]) (fun x => x.2.2.1 == n) := by
  refine ⟨131, fun w => by kernel_rfl, fun args w => rfl, fun x0 x1 x2 x3 x4 x5 w => ?_⟩
  obtain ⟨hb0, _⟩ := bx2 w #[.int .i64 n] #[.int .i64 x0, .int .i64 x1, .int .i64 x2, .int .i64 x3, .int .i64 x4, .int .i64 x5] 120 87
  have HB0 := Lib.hid hb0
  clear hb0
  go_enter Tryd.func131, Tryd.ntmps131
  go_wp2
  go_ret
  exact ⟨rfl, HB0.out⟩
set_option maxRecDepth 100000 in
theorem picks_read (l s : Int) : Picks 99 (.agg #[.int .i64 l, .int .i64 s]) (fun x => LabC.belowB x.2.1.1 x.2.1.2 l s) := by
  refine ⟨129, fun w => by kernel_rfl, fun args w => rfl, fun x0 x1 x2 x3 x4 x5 w => ?_⟩
  obtain ⟨hb0, _⟩ := bx2 w #[.int .i64 l, .int .i64 s] #[.int .i64 x0, .int .i64 x1, .int .i64 x2, .int .i64 x3, .int .i64 x4, .int .i64 x5] 99 87
  have HB0 := Lib.hid hb0
  have HZ := hb0.size
  clear hb0
  go_enter Tryd.func129, Tryd.ntmps129
  go_wp2_with fail
  refine (LabC.below_impl x2 x3 l s _).mono ?_
  rintro e w1 ⟨rfl, hb⟩
  have HB1 := Lib.hid (HB0.out.trans (hb.mono HZ))
  clear hb
  go_wp2
  go_ret
  exact ⟨rfl, HB1.out⟩
set_option maxRecDepth 100000 in
set_option maxHeartbeats 3200000 in
theorem picked_impl {L : List D_Letter} {la : Option Addr} {lc : Nat} {T : TypeId} {v : Value} {p : D_Letter → Bool} {W : World} (hn : L.length ≤ 1073741824) (hp : Picks T v p) (hL : RdSl R_Letter W W.heap.size L la lc) :
    Calls Tryd.prog 88 #[.slice la L.length lc, .iface T v] W (NewS R_Letter (L.filter p) W) := by
  have H := Lib.hid hL
  obtain ⟨f, hm, hcf, hf⟩ := hp
  have HFC := Lib.hid hf
  clear hL hf
  go_enter Tryd.func88, Tryd.ntmps88
  go_wp2
  go_loopw [5, 10] (fun o i wr => ∃ k : Nat, k ≤ L.length ∧ i = .int .i64 k ∧ (∃ a c xs Sf hi, o = .slice a ((L.take k).filter p).length c ∧ W.heap.size ≤ hi ∧ App R_Letter wr W.heap.size hi 87 (.slice a ((L.take k).filter p).length c) ((L.take k).filter p) xs Sf) ∧ Below W.heap.size W wr) (fun _ i _ => L.length - (intOf i).toNat)
  case atStart => exact ⟨0, Nat.zero_le _, rfl, ⟨none, 0, _, _, _, rfl, Nat.le_refl _, App.none_ R_Letter W 87 (Nat.le_refl _)⟩, Below.refl _ _⟩
  case round =>
    obtain ⟨k, hk, rfl, ⟨oa, oc, xs, Sf, hi, rfl, hlo, hO⟩, hB⟩ := hrel
    have HB := Lib.hid hB
    have HO := Lib.hid hO
    have hsz := hB.size
    by_cases hlt : k < L.length
    · obtain ⟨⟨⟨x0, x1⟩, ⟨x2, x3⟩, x4, x5⟩, hx⟩ := el_some hlt
      have Hhx := Lib.hid hx
      obtain ⟨g, o, us, rfl, hgg, hu, hr⟩ := (H.out.below R_Letter_ok hB).at_ hx
      obtain rfl := rd_Letter hr
      have e0 : wr.cell? ⟨g, o + k * 6, none⟩ = some (.int .i64 x0) := by simpa [size_LetterS, Nat.add_assoc] using hu 0 _ rfl
      have e1 : wr.cell? ⟨g, o + k * 6 + 1, none⟩ = some (.int .i64 x1) := by simpa [size_LetterS, Nat.add_assoc] using hu 1 _ rfl
      have e2 : wr.cell? ⟨g, o + k * 6 + 2, none⟩ = some (.int .i64 x2) := by simpa [size_LetterS, Nat.add_assoc] using hu 2 _ rfl
      have e3 : wr.cell? ⟨g, o + k * 6 + 3, none⟩ = some (.int .i64 x3) := by simpa [size_LetterS, Nat.add_assoc] using hu 3 _ rfl
      have e4 : wr.cell? ⟨g, o + k * 6 + 4, none⟩ = some (.int .i64 x4) := by simpa [size_LetterS, Nat.add_assoc] using hu 4 _ rfl
      have e5 : wr.cell? ⟨g, o + k * 6 + 5, none⟩ = some (.int .i64 x5) := by simpa [size_LetterS, Nat.add_assoc] using hu 5 _ rfl
      have hgl : g < wr.heap.size := Nat.lt_of_lt_of_le hgg hsz
      have hi0 : (0 : Int) ≤ (k : Int) := Int.natCast_nonneg _
      have hi1 : (k : Int) < (L.length : Int) := by omega
      have HST := Lib.hid (filter_step p Hhx.out)
      have hfl : ((L.take k).filter p).length ≤ k := Nat.le_trans (List.length_filter_le _ _) (by rw [List.length_take]; omega)
      clear hB hx hu hr hO
      obtain ⟨M, hM⟩ : ∃ M, (L.take k).filter p = M := ⟨_, rfl⟩
      rw [hM] at HO HST hfl ⊢
      clear hM
      obtain ⟨b, hbp⟩ : ∃ b, p ((x0, x1), (x2, x3), x4, x5) = b := ⟨_, rfl⟩
      have HP := Lib.hid hbp
      clear hbp
      have HX0 := Lib.hid (show Below wr.heap.size wr (wr.alloc (.cells #[.int .i64 x0, .int .i64 x1, .int .i64 x2, .int .i64 x3, .int .i64 x4, .int .i64 x5] 87)) from (Below.refl _ _).alloc (Nat.le_refl _) _)
      have HXB := Lib.hid (Blk.new wr 87 #[.int .i64 x0, .int .i64 x1, .int .i64 x2, .int .i64 x3, .int .i64 x4, .int .i64 x5])
      obtain ⟨wx, hwx⟩ : ∃ w, w = wr.alloc (.cells #[.int .i64 x0, .int .i64 x1, .int .i64 x2, .int .i64 x3, .int .i64 x4, .int .i64 x5] 87) := ⟨_, rfl⟩
      rw [← hwx] at HX0 HXB
      have HBX := Lib.hid (HB.out.trans (HX0.out.mono hsz))
      have hzx := HBX.out.size
      have HOX := Lib.hid (HO.out.call R_Letter_ok HX0.out)
      have m0 := hm wx
      go_wp2_with fail
      rw [← hwx]
      clear hwx
      refine (HFC.out x0 x1 x2 x3 x4 x5 wx).mono ?_
      rintro e w1 ⟨rfl, hb⟩
      have HB1 := Lib.hid (HBX.out.trans (hb.mono hzx))
      have HO1 := Lib.hid (HOX.out.call R_Letter_ok hb)
      have HX1 := Lib.hid (HXB.out.call hb)
      have hz1 := HB1.out.size
      have hhi := HO1.out.le
      clear hb m0
      rw [HP.out]
      cases b with
      | false =>
        have HE := Lib.hid (show (L.take (k + 1)).filter p = M from by rw [HST.out, HP.out]; simp)
        go_wp2
        go_roundw
        case rel => exact ⟨k + 1, by omega, by go_num, by rw [HE.out]; exact ⟨oa, oc, xs, Sf, hi, rfl, hlo, HO1.out⟩, HB1.out⟩
        case measure => simp [intOf]; omega
      | true =>
        have HE := Lib.hid (show (L.take (k + 1)).filter p = M ++ [((x0, x1), (x2, x3), x4, x5)] from by rw [HST.out, HP.out]; simp)
        obtain ⟨na, nc, w2, xs2, Sf2, hr, hA2, hb2⟩ := app_letter HO1.out x0 x1 x2 x3 x4 x5 hlo (by omega)
        have HR := Lib.hid hr
        have HA2 := Lib.hid hA2
        have HB2 := Lib.hid (HB1.out.trans hb2)
        have hz2 := HB2.out.size
        have p0 := HX1.out.at_ 0 rfl
        have p1 := HX1.out.at_ 1 rfl
        have p2 := HX1.out.at_ 2 rfl
        have p3 := HX1.out.at_ 3 rfl
        have p4 := HX1.out.at_ 4 rfl
        have p5 := HX1.out.at_ 5 rfl
        clear hr hA2 hb2
        go_wp2_with (at_builtin; refine wpList_app rfl (.tmp 17) (.tmp 19) 40 rfl rfl rfl HR.out ?_)
        go_roundw
        case rel => exact ⟨k + 1, by omega, by go_num, by rw [HE.out]; exact ⟨na, nc, xs2, Sf2, _, by simp, hz2, HA2.out⟩, HB2.out⟩
        case measure => simp [intOf]; omega
    · obtain rfl : k = L.length := by omega
      have hd : decide ((L.length : Int) < (L.length : Int)) = false := decide_eq_false (by omega)
      have HE := Lib.hid (show (L.take L.length).filter p = L.filter p from by rw [List.take_length])
      rw [HE.out] at HO ⊢
      clear hB hO HE
      go_wp2
      go_ret
      exact HO.out.new_ HB.out
end Go.Proofs.YtknifggpodhhdaaDoor.RepC
