/- The laws' draws of spans: contracts. -/
import Derived.Test.YtphklknaagjmpaaSpDraw2
namespace Go.Proofs.Ytphklknaagjmpaa.SpanC
open Go.RowKit KeptC RowC ValC DrawC RepC
set_option linter.unusedVariables false
set_option linter.unusedSimpArgs false

def DrawnFree (w : World) (e : Ending) (w' : World) : Prop := ∃ (v : Value) (n : Nat) (f : Nat → Int × Int) (x y : Int), e = .returned (.tuple #[v, .agg #[.int .i64 x, .int .i64 y]]) ∧ n ≤ 21 ∧ RowS w' w.heap.size v n f ∧ Below w.heap.size w w'
theorem drawnFree_elim {w : World} {e : Ending} {w' : World} (h : DrawnFree w e w') : ∃ (v : Value) (n : Nat) (f : Nat → Int × Int) (x y : Int), e = .returned (.tuple #[v, .agg #[.int .i64 x, .int .i64 y]]) ∧ n ≤ 21 ∧ RowS w' w.heap.size v n f ∧ Below w.heap.size w w' := h
theorem belowSet {B : Nat} {w W : World} (h : Below B w W) {p : Addr} (hp : B ≤ p.block) (u : Value) : Below B w (W.setCell p u) := h.setCell hp u
theorem rowSet {W : World} {lo s n : Nat} {T : TypeId} {v : Value} {c : Nat → Value} (h : RowO W lo T s v n c) {p : Addr} (u : Value) (hne : ∀ k, v.ownBlock = some k → k ≠ p.block) : RowO (W.setCell p u) lo T s v n c := by
  obtain ⟨h1, h2⟩ := h
  refine ⟨h1, ?_⟩
  rcases h2 with h2 | ⟨g, cap, cur, rfl, hlo, hg, h3⟩
  · exact .inl h2
  · exact .inr ⟨g, cap, cur, rfl, hlo, (Below.heap_setCell W p u g (hne g rfl)).trans hg, h3⟩

set_option maxRecDepth 100000 in
set_option maxHeartbeats 1600000 in
theorem draw_isfree (b : Option Addr) (len cap : Nat) (w : World) (hlen : len ≤ 1048576) (h : CodeIn w b len) :
    Calls Try.prog 9 #[.slice b len cap] w (DrawnFree w) := by
  obtain ⟨W0, hW0⟩ : ∃ x, x = w.alloc (.cells #[.int .i64 0, .int .i64 0] 25) := ⟨_, rfl⟩
  have hb0 : Below w.heap.size w W0 := by rw [hW0]; exact (Below.refl _ _).alloc (Nat.le_refl _) _
  have HC := Lib.hid (h.below hb0)
  have HX0 := Lib.hid (show Blk W0 w.heap.size 25 #[.int .i64 0, .int .i64 0] from hW0 ▸ Blk.new _ _ _)
  have HB0 := Lib.hid hb0
  have hsz0 : w.heap.size < W0.heap.size := by rw [hW0]; simp
  clear h hb0
  go_enter Try.func9, Try.ntmps9
  go_wp2_with fail
  rw [← hW0]
  clear hW0
  refine (source_any b len cap _ hlen HC.out).mono ?_
  rintro e w1 ⟨rfl, hs, hb⟩
  have HB1 := Lib.hid (HB0.out.trans (hb.mono (by omega)))
  have HX1 := Lib.hid (HX0.out.call hb)
  have HS1 := Lib.hid hs
  have hlt1 := hs.lt
  have hne : w.heap.size ≠ W0.heap.size := by omega
  clear hs hb HX0 HB0
  go_wp2_with fail
  refine (spans_any _ b len cap _ HS1.out).mono ?_
  intro e w2 h
  obtain ⟨v, n, f, rfl, hn, hrow, hs, hb⟩ := drawnSp_elim h
  have HV2 := Lib.hid hrow
  have HB2 := Lib.hid (HB1.out.trans (hb.below (B := w.heap.size) HB1.out.size (by omega)))
  have HX2 := Lib.hid (blkBut HX1.out hb hne)
  have HS2 := Lib.hid hs
  clear h hrow hs hb HX1 HS1
  go_wp2_with fail
  refine (span_any _ b len cap _ HS2.out).mono ?_
  intro e w3 h
  obtain ⟨x, y, rfl, hs, hb⟩ := drawnX_elim h
  have HV3 := Lib.hid (butRowS HV2.out hb hlt1)
  have HB3 := Lib.hid (HB2.out.trans (hb.below (B := w.heap.size) HB2.out.size (by omega)))
  have HX3 := Lib.hid (blkBut HX2.out hb hne)
  have hlo := HB1.out.size
  clear h hs hb HX2 HS2 HV2 HB2
  have r0 := HX3.out.at_ 0 rfl
  have r1 := HX3.out.at_ 1 rfl
  have f0 := HX3.out.soft 0
  have f1 := HX3.out.soft 1
  go_wp2
  refine bodyPost_ret (v := .tuple #[v, .agg #[.int .i64 x, .int .i64 y]]) (by simp [results, Try.results9, go_sem, *]) rfl ?_
  have hown : ∀ k, v.ownBlock = some k → k ≠ w.heap.size := fun k hk => by have := rowO_blk HV3.out k hk; omega
  exact ⟨v, n, f, x, y, rfl, hn, (rowSet (rowSet HV3.out (p := ⟨w.heap.size, 0, none⟩) _ hown) (p := ⟨w.heap.size, 1, none⟩) _ hown).lower hlo, belowSet (belowSet HB3.out (p := ⟨w.heap.size, 0, none⟩) (Nat.le_refl _) _) (p := ⟨w.heap.size, 1, none⟩) (Nat.le_refl _) _⟩

set_option maxRecDepth 100000 in
set_option maxHeartbeats 1600000 in
theorem draw_spanput (b : Option Addr) (len cap : Nat) (w : World) (hlen : len ≤ 1048576) (h : CodeIn w b len) :
    Calls Try.prog 4 #[.slice b len cap] w (DrawnFree w) := by
  obtain ⟨W0, hW0⟩ : ∃ x, x = w.alloc (.cells #[.int .i64 0, .int .i64 0] 25) := ⟨_, rfl⟩
  have hb0 : Below w.heap.size w W0 := by rw [hW0]; exact (Below.refl _ _).alloc (Nat.le_refl _) _
  have HC := Lib.hid (h.below hb0)
  have HX0 := Lib.hid (show Blk W0 w.heap.size 25 #[.int .i64 0, .int .i64 0] from hW0 ▸ Blk.new _ _ _)
  have HB0 := Lib.hid hb0
  have hsz0 : w.heap.size < W0.heap.size := by rw [hW0]; simp
  clear h hb0
  go_enter Try.func4, Try.ntmps4
  go_wp2_with fail
  rw [← hW0]
  clear hW0
  refine (draw_isfree b len cap _ hlen HC.out).mono ?_
  intro e w3 h
  obtain ⟨v, n, f, x, y, rfl, hn, hrow, hb⟩ := drawnFree_elim h
  have HV3 := Lib.hid hrow
  have HB3 := Lib.hid (HB0.out.trans (hb.mono (by omega)))
  have HX3 := Lib.hid (HX0.out.call hb)
  clear h hrow hb HX0
  have r0 := HX3.out.at_ 0 rfl
  have r1 := HX3.out.at_ 1 rfl
  have f0 := HX3.out.soft 0
  have f1 := HX3.out.soft 1
  go_wp2
  refine bodyPost_ret (v := .tuple #[v, .agg #[.int .i64 x, .int .i64 y]]) (by simp [results, Try.results4, go_sem, *]) rfl ?_
  have hown : ∀ k, v.ownBlock = some k → k ≠ w.heap.size := fun k hk => by have := rowO_blk HV3.out k hk; omega
  exact ⟨v, n, f, x, y, rfl, hn, (rowSet (rowSet HV3.out (p := ⟨w.heap.size, 0, none⟩) _ hown) (p := ⟨w.heap.size, 1, none⟩) _ hown).lower (by omega), belowSet (belowSet HB3.out (p := ⟨w.heap.size, 0, none⟩) (Nat.le_refl _) _) (p := ⟨w.heap.size, 1, none⟩) (Nat.le_refl _) _⟩
theorem RowsD.lower {W : World} {lo lo' m : Nat} {v : Value} {N : Nat → Nat} {F : Nat → Nat → Int × Int} {qA : Nat → Option Addr} {qC : Nat → Nat} (h : RowsD W lo v m N F qA qC) (hl : lo' ≤ lo) : RowsD W lo' v m N F qA qC :=
  ⟨h.row.lower hl, fun k hk => (h.el k hk).keep hl (Nat.le_refl _) fun _ _ _ h3 => ⟨rfl, h3⟩, h.len⟩
def DrawnFN (w : World) (e : Ending) (w' : World) : Prop := ∃ (v : Value) (m : Nat) (N : Nat → Nat) (F : Nat → Nat → Int × Int) (qA : Nat → Option Addr) (qC : Nat → Nat) (need x y : Int), e = .returned (.tuple #[v, .int .i64 need, .agg #[.int .i64 x, .int .i64 y]]) ∧ m ≤ 4 ∧ RowsD w' w.heap.size v m N F qA qC ∧ Below w.heap.size w w'
theorem drawnFN_elim {w : World} {e : Ending} {w' : World} (h : DrawnFN w e w') : ∃ (v : Value) (m : Nat) (N : Nat → Nat) (F : Nat → Nat → Int × Int) (qA : Nat → Option Addr) (qC : Nat → Nat) (need x y : Int), e = .returned (.tuple #[v, .int .i64 need, .agg #[.int .i64 x, .int .i64 y]]) ∧ m ≤ 4 ∧ RowsD w' w.heap.size v m N F qA qC ∧ Below w.heap.size w w' := h

set_option maxRecDepth 100000 in
set_option maxHeartbeats 1600000 in
theorem draw_fitnodes (b : Option Addr) (len cap : Nat) (w : World) (hlen : len ≤ 1048576) (h : CodeIn w b len) :
    Calls Try.prog 8 #[.slice b len cap] w (DrawnFN w) := by
  obtain ⟨W0, hW0⟩ : ∃ x, x = w.alloc (.cells #[.int .i64 0, .int .i64 0] 25) := ⟨_, rfl⟩
  have hb0 : Below w.heap.size w W0 := by rw [hW0]; exact (Below.refl _ _).alloc (Nat.le_refl _) _
  have HC := Lib.hid (h.below hb0)
  have HX0 := Lib.hid (show Blk W0 w.heap.size 25 #[.int .i64 0, .int .i64 0] from hW0 ▸ Blk.new _ _ _)
  have HB0 := Lib.hid hb0
  have hsz0 : w.heap.size < W0.heap.size := by rw [hW0]; simp
  clear h hb0
  go_enter Try.func8, Try.ntmps8
  go_wp2_with fail
  rw [← hW0]
  clear hW0
  refine (source_any b len cap _ hlen HC.out).mono ?_
  rintro e w1 ⟨rfl, hs, hb⟩
  have HB1 := Lib.hid (HB0.out.trans (hb.mono (by omega)))
  have HX1 := Lib.hid (HX0.out.call hb)
  have HS1 := Lib.hid hs
  have hlt1 := hs.lt
  have hne : w.heap.size ≠ W0.heap.size := by omega
  clear hs hb HX0 HB0
  go_wp2_with fail
  refine (rows_any _ b len cap _ HS1.out).mono ?_
  intro e w2 h
  obtain ⟨v, m, N, F, qA, qC, rfl, hm, hrow, hs, hb⟩ := drawnRs_elim h
  have HV2 := Lib.hid hrow
  have HB2 := Lib.hid (HB1.out.trans (hb.below (B := w.heap.size) HB1.out.size (by omega)))
  have HX2 := Lib.hid (blkBut HX1.out hb hne)
  have HS2 := Lib.hid hs
  clear h hrow hs hb HX1 HS1
  go_wp2_with fail
  refine (n_any _ b len cap 5 _ HS2.out (by omega)).mono ?_
  rintro e w3 ⟨need, rfl, hn0, hn1, hs, hb⟩
  have HV3 := Lib.hid (HV2.out.but hb hlt1)
  have HB3 := Lib.hid (HB2.out.trans (hb.below (B := w.heap.size) HB2.out.size (by omega)))
  have HX3 := Lib.hid (blkBut HX2.out hb hne)
  have HS3 := Lib.hid hs
  clear hs hb HX2 HS2 HV2 HB2
  go_wp2_with fail
  refine (span_any _ b len cap _ HS3.out).mono ?_
  intro e w4 h
  obtain ⟨x, y, rfl, hs, hb⟩ := drawnX_elim h
  have HV4 := Lib.hid (HV3.out.but hb hlt1)
  have HB4 := Lib.hid (HB3.out.trans (hb.below (B := w.heap.size) HB3.out.size (by omega)))
  have HX4 := Lib.hid (blkBut HX3.out hb hne)
  have hlo := HB1.out.size
  clear h hs hb HX3 HS3 HV3 HB3
  have r0 := HX4.out.at_ 0 rfl
  have r1 := HX4.out.at_ 1 rfl
  have f0 := HX4.out.soft 0
  have f1 := HX4.out.soft 1
  go_wp2
  refine bodyPost_ret (v := .tuple #[v, .int .i64 need, .agg #[.int .i64 x, .int .i64 y]]) (by simp [results, Try.results8, go_sem, *]) rfl ?_
  exact ⟨v, m, N, F, qA, qC, need, x, y, rfl, hm, (((HV4.out.but ((But.refl w.heap.size _).setCell 0 _) (by omega)).but ((But.refl w.heap.size _).setCell 1 _) (by omega)).lower hlo), belowSet (belowSet HB4.out (p := ⟨w.heap.size, 0, none⟩) (Nat.le_refl _) _) (p := ⟨w.heap.size, 1, none⟩) (Nat.le_refl _) _⟩

theorem tab3' {v a b c : Int} (h0 : 0 ≤ v) (h1 : v < 3 ∨ v = 0) : ∃ (k : Nat) (z : Int), v = (k : Int) ∧ k < 3 ∧ (#[.int .i64 a, .int .i64 b, .int .i64 c] : Array Value)[k]? = some (.int .i64 z) := by
  have : v = 0 ∨ v = 1 ∨ v = 2 := by omega
  rcases this with rfl | rfl | rfl
  · exact ⟨0, a, rfl, by omega, rfl⟩
  · exact ⟨1, b, rfl, by omega, rfl⟩
  · exact ⟨2, c, rfl, by omega, rfl⟩
def DrawnFF (w : World) (e : Ending) (w' : World) : Prop := ∃ (v : Value) (m : Nat) (N : Nat → Nat) (F : Nat → Nat → Int × Int) (qA : Nat → Option Addr) (qC : Nat → Nat) (need l now : Int), e = .returned (.tuple #[v, .int .i64 need, .int .i64 l, .int .i64 now]) ∧ m ≤ 4 ∧ RowsD w' w.heap.size v m N F qA qC ∧ Below w.heap.size w w'
theorem drawnFF_elim {w : World} {e : Ending} {w' : World} (h : DrawnFF w e w') : ∃ (v : Value) (m : Nat) (N : Nat → Nat) (F : Nat → Nat → Int × Int) (qA : Nat → Option Addr) (qC : Nat → Nat) (need l now : Int), e = .returned (.tuple #[v, .int .i64 need, .int .i64 l, .int .i64 now]) ∧ m ≤ 4 ∧ RowsD w' w.heap.size v m N F qA qC ∧ Below w.heap.size w w' := h

set_option maxRecDepth 100000 in
set_option maxHeartbeats 4000000 in
theorem draw_firstfit (b : Option Addr) (len cap : Nat) (w : World) (hlen : len ≤ 1048576) (h : CodeIn w b len) :
    Calls Try.prog 6 #[.slice b len cap] w (DrawnFF w) := by
  have HC := Lib.hid h
  clear h
  go_enter Try.func6, Try.ntmps6
  go_wp2_with fail
  refine (source_any b len cap _ hlen HC.out).mono ?_
  rintro e w1 ⟨rfl, hs, hb⟩
  have HB1 := Lib.hid hb
  have HS1 := Lib.hid hs
  have hlt1 := hs.lt
  clear hs hb
  go_wp2_with fail
  refine (rows_any _ b len cap _ HS1.out).mono ?_
  intro e w2 h
  obtain ⟨v, m, N, F, qA, qC, rfl, hm, hrow, hs, hb⟩ := drawnRs_elim h
  have HV2 := Lib.hid (hrow.lower (Nat.le_refl _))
  have HB2 := Lib.hid (HB1.out.trans (hb.below (B := w.heap.size) HB1.out.size (Nat.le_refl _)))
  have HS2 := Lib.hid hs
  have hlo := HB1.out.size
  clear h hrow hs hb HS1
  go_wp2_with fail
  refine (n_any _ b len cap 3 _ HS2.out (by omega)).mono ?_
  rintro e w3 ⟨need, rfl, hn0, hn1, hs, hb⟩
  have HV3 := Lib.hid (HV2.out.but hb hlt1)
  have HB3 := Lib.hid (HB2.out.trans (hb.below (B := w.heap.size) HB2.out.size (Nat.le_refl _)))
  have HS3 := Lib.hid hs
  have hne1 : need ≤ 2 := by omega
  clear hs hb HS2 HV2 HB2 hn1
  go_wp2_with fail
  refine (one_any _ b len cap 12 _ HS3.out (by omega)).mono ?_
  rintro e w4 ⟨c, rfl, hs, hb⟩
  have HV4 := Lib.hid (HV3.out.but hb hlt1)
  have HB4 := Lib.hid (HB3.out.trans (hb.below (B := w.heap.size) HB3.out.size (Nat.le_refl _)))
  have HS4 := Lib.hid hs
  clear hs hb HS3 HV3 HB3
  cases c with
  | false =>
    go_wp2_with fail
    refine (n_any _ b len cap 9 _ HS4.out (by omega)).mono ?_
    rintro e w5 ⟨l, rfl, hl0, hl1, hs, hb⟩
    have HV5 := Lib.hid (HV4.out.but hb hlt1)
    have HB5 := Lib.hid (HB4.out.trans (hb.below (B := w.heap.size) HB4.out.size (Nat.le_refl _)))
    have HS5 := Lib.hid hs
    have hl2 : l ≤ 8 := by omega
    clear hs hb HS4 HV4 HB4 hl1
    go_wp2_with fail
    refine (n_any _ b len cap 20 _ HS5.out (by omega)).mono ?_
    rintro e w6 ⟨now, rfl, hw0, hw1, hs, hb⟩
    have HV6 := Lib.hid (HV5.out.but hb hlt1)
    have HB6 := Lib.hid (HB5.out.trans (hb.below (B := w.heap.size) HB5.out.size (Nat.le_refl _)))
    clear hs hb HS5 HV5 HB5
    go_wp2
    refine bodyPost_ret (v := .tuple #[v, .int .i64 (1 + need), .int .i64 (1 + l), .int .i64 now]) (by simp [results, Try.results6, go_sem, *]) rfl ?_
    exact ⟨v, m, N, F, qA, qC, _, _, _, rfl, hm, HV6.out.lower hlo, HB6.out⟩
  | true =>
    go_wp2_with fail
    refine wp_region_held_drew (S := (fun _ => True)) (by kernel_rfl) trivial (fun hHeld => ?_)
    have HB := Lib.hid HB4.out.drew
    have HV := Lib.hid (HV4.out.but (But.refl _ _).drew hlt1)
    have HS := Lib.hid (srcDrew HS4.out)
    clear HB4 HV4 HS4
    refine tk 0 hHeld ?_
    refine tk 1 hHeld ?_
    refine tk 4 hHeld ?_
    refine tk 8 hHeld ?_
    refine rd2 2 3 (fun K hK => ?_) (fun K hK => ?_)
    · skip
      go_simp
      go_at_call 24
      refine (n_any _ b len cap 8 _ HS.out (by omega)).mono ?_
      rintro e v7 ⟨q1, rfl, hq0, hq1, hs, hb⟩
      have HB := Lib.hid (HB.out.trans (hb.below (B := w.heap.size) HB.out.size (Nat.le_refl _)))
      have HV := Lib.hid (HV.out.but hb hlt1)
      have HS := Lib.hid hs
      refine hK.out _ _ trivial (fun _ => ?_)
      clear hK K hs hb hq0 hq1
      refine rd2 3 5 (fun K hK => ?_) (fun K hK => ?_)
      · skip
        go_simp
        obtain ⟨v8, hv8⟩ : ∃ x, x = v7.alloc (.cells #[.int .i64 0, .int .i64 40, .int .i64 41] 2) := ⟨_, rfl⟩
        obtain ⟨gt, hgt⟩ : ∃ x, x = (v7).heap.size := ⟨_, rfl⟩
        have hbA : But w.heap.size (v7) v8 := by rw [hv8]; exact (But.refl _ _).alloc _
        have hnB : gt ≠ w.heap.size := by have h9 := HS.out.lt; omega
        have HB := Lib.hid (HB.out.trans (hbA.below (B := w.heap.size) HB.out.size (Nat.le_refl _)))
        have HV := Lib.hid (HV.out.but hbA hlt1)
        have HT := Lib.hid (show Blk v8 gt 2 #[.int .i64 0, .int .i64 40, .int .i64 41] from by rw [hv8, hgt]; exact Blk.new (v7) _ _)
        have HS := Lib.hid (show Src w.heap.size b len cap v8 from by rw [hv8]; exact (HS.out.alloc _ : Src _ _ _ _ ((v7).alloc _)))
        rw [← hv8]
        rw [show v7.heap.size = gt from hgt.symm]
        clear hv8 hgt hbA
        refine hK.out _ _ trivial (fun _ => ?_)
        clear hK K
        refine rd1 5 (fun K hK => ?_)
        go_simp
        go_at_call 24
        refine (n_any _ b len cap 3 _ HS.out (by omega)).mono ?_
        rintro e v9 ⟨q2, rfl, hq0, hq1, hs, hb⟩
        obtain ⟨kk, z, rfl, hkk, hz⟩ := tab3' (a := 0) (b := 40) (c := 41) hq0 hq1
        have hp : (0 : Int) ≤ (kk : Int) := Int.natCast_nonneg _
        have hu : (kk : Int) < 3 := by omega
        have HZ := Lib.hid hz
        clear hz
        have HB := Lib.hid (HB.out.trans (hb.below (B := w.heap.size) HB.out.size (Nat.le_refl _)))
        have HV := Lib.hid (HV.out.but hb hlt1)
        have HT := Lib.hid (blkBut HT.out hb hnB)
        have HS := Lib.hid hs
        refine hK.out _ _ trivial (fun _ => ?_)
        clear hK K hs hb hq0 hq1
        refine tk 6 hHeld ?_
        refine rd2 7 9 (fun K hK => ?_) (fun K hK => ?_)
        · skip
          have cl : (v9).cell? ⟨gt, kk, none⟩ = some (.int .i64 z) := HT.out.at_ kk HZ.out
          go_simp
          refine hK.out _ _ trivial (fun _ => ?_)
          clear hK K cl
          refine rd1 9 (fun K hK => ?_)
          go_simp
          go_at_call 26
          refine (edge_any _ b len cap _ HS.out).mono ?_
          rintro e v10 ⟨ev, rfl, hq0, hq1, hs, hb⟩
          have HB := Lib.hid (HB.out.trans (hb.below (B := w.heap.size) HB.out.size (Nat.le_refl _)))
          have HV := Lib.hid (HV.out.but hb hlt1)
          have HT := Lib.hid (blkBut HT.out hb hnB)
          have HS := Lib.hid hs
          refine hK.out _ _ trivial (fun _ => ?_)
          clear hK K hs hb
          refine tk 10 hHeld ?_
          refine tk 11 hHeld ?_
          refine tk 12 hHeld ?_
          refine tk 13 hHeld ?_
          refine rd0 ?_
          go_wp2
          refine bodyPost_ret (v := .tuple #[v, .int .i64 q1, .int .i64 z, .int .i64 ev]) (by simp [results, Try.results6, go_sem, *]) rfl ?_
          exact ⟨v, m, N, F, qA, qC, _, _, _, rfl, hm, HV.out.lower hlo, HB.out⟩
        · skip
          go_simp
          go_at_call 26
          refine (edge_any _ b len cap _ HS.out).mono ?_
          rintro e v11 ⟨ev, rfl, hq0, hq1, hs, hb⟩
          have HB := Lib.hid (HB.out.trans (hb.below (B := w.heap.size) HB.out.size (Nat.le_refl _)))
          have HV := Lib.hid (HV.out.but hb hlt1)
          have HT := Lib.hid (blkBut HT.out hb hnB)
          have HS := Lib.hid hs
          refine hK.out _ _ trivial (fun _ => ?_)
          clear hK K hs hb
          refine tk 10 hHeld ?_
          refine tk 11 hHeld ?_
          refine rd1 7 (fun K hK => ?_)
          have cl : (v11).cell? ⟨gt, kk, none⟩ = some (.int .i64 z) := HT.out.at_ kk HZ.out
          go_simp
          refine hK.out _ _ trivial (fun _ => ?_)
          clear hK K cl
          refine tk 12 hHeld ?_
          refine tk 13 hHeld ?_
          refine rd0 ?_
          go_wp2
          refine bodyPost_ret (v := .tuple #[v, .int .i64 q1, .int .i64 z, .int .i64 ev]) (by simp [results, Try.results6, go_sem, *]) rfl ?_
          exact ⟨v, m, N, F, qA, qC, _, _, _, rfl, hm, HV.out.lower hlo, HB.out⟩
      · skip
        go_simp
        go_at_call 24
        refine (n_any _ b len cap 3 _ HS.out (by omega)).mono ?_
        rintro e v12 ⟨q2, rfl, hq0, hq1, hs, hb⟩
        obtain ⟨kk, z, rfl, hkk, hz⟩ := tab3' (a := 0) (b := 40) (c := 41) hq0 hq1
        have hp : (0 : Int) ≤ (kk : Int) := Int.natCast_nonneg _
        have hu : (kk : Int) < 3 := by omega
        have HZ := Lib.hid hz
        clear hz
        have HB := Lib.hid (HB.out.trans (hb.below (B := w.heap.size) HB.out.size (Nat.le_refl _)))
        have HV := Lib.hid (HV.out.but hb hlt1)
        have HS := Lib.hid hs
        refine hK.out _ _ trivial (fun _ => ?_)
        clear hK K hs hb hq0 hq1
        refine rd2 3 9 (fun K hK => ?_) (fun K hK => ?_)
        · skip
          go_simp
          obtain ⟨v13, hv13⟩ : ∃ x, x = v12.alloc (.cells #[.int .i64 0, .int .i64 40, .int .i64 41] 2) := ⟨_, rfl⟩
          obtain ⟨gt, hgt⟩ : ∃ x, x = (v12).heap.size := ⟨_, rfl⟩
          have hbA : But w.heap.size (v12) v13 := by rw [hv13]; exact (But.refl _ _).alloc _
          have hnB : gt ≠ w.heap.size := by have h9 := HS.out.lt; omega
          have HB := Lib.hid (HB.out.trans (hbA.below (B := w.heap.size) HB.out.size (Nat.le_refl _)))
          have HV := Lib.hid (HV.out.but hbA hlt1)
          have HT := Lib.hid (show Blk v13 gt 2 #[.int .i64 0, .int .i64 40, .int .i64 41] from by rw [hv13, hgt]; exact Blk.new (v12) _ _)
          have HS := Lib.hid (show Src w.heap.size b len cap v13 from by rw [hv13]; exact (HS.out.alloc _ : Src _ _ _ _ ((v12).alloc _)))
          rw [← hv13]
          rw [show v12.heap.size = gt from hgt.symm]
          clear hv13 hgt hbA
          refine hK.out _ _ trivial (fun _ => ?_)
          clear hK K
          refine tk 6 hHeld ?_
          refine rd2 7 9 (fun K hK => ?_) (fun K hK => ?_)
          · skip
            have cl : (v13).cell? ⟨gt, kk, none⟩ = some (.int .i64 z) := HT.out.at_ kk HZ.out
            go_simp
            refine hK.out _ _ trivial (fun _ => ?_)
            clear hK K cl
            refine rd1 9 (fun K hK => ?_)
            go_simp
            go_at_call 26
            refine (edge_any _ b len cap _ HS.out).mono ?_
            rintro e v14 ⟨ev, rfl, hq0, hq1, hs, hb⟩
            have HB := Lib.hid (HB.out.trans (hb.below (B := w.heap.size) HB.out.size (Nat.le_refl _)))
            have HV := Lib.hid (HV.out.but hb hlt1)
            have HT := Lib.hid (blkBut HT.out hb hnB)
            have HS := Lib.hid hs
            refine hK.out _ _ trivial (fun _ => ?_)
            clear hK K hs hb
            refine tk 10 hHeld ?_
            refine tk 11 hHeld ?_
            refine tk 12 hHeld ?_
            refine tk 13 hHeld ?_
            refine rd0 ?_
            go_wp2
            refine bodyPost_ret (v := .tuple #[v, .int .i64 q1, .int .i64 z, .int .i64 ev]) (by simp [results, Try.results6, go_sem, *]) rfl ?_
            exact ⟨v, m, N, F, qA, qC, _, _, _, rfl, hm, HV.out.lower hlo, HB.out⟩
          · skip
            go_simp
            go_at_call 26
            refine (edge_any _ b len cap _ HS.out).mono ?_
            rintro e v15 ⟨ev, rfl, hq0, hq1, hs, hb⟩
            have HB := Lib.hid (HB.out.trans (hb.below (B := w.heap.size) HB.out.size (Nat.le_refl _)))
            have HV := Lib.hid (HV.out.but hb hlt1)
            have HT := Lib.hid (blkBut HT.out hb hnB)
            have HS := Lib.hid hs
            refine hK.out _ _ trivial (fun _ => ?_)
            clear hK K hs hb
            refine tk 10 hHeld ?_
            refine tk 11 hHeld ?_
            refine rd1 7 (fun K hK => ?_)
            have cl : (v15).cell? ⟨gt, kk, none⟩ = some (.int .i64 z) := HT.out.at_ kk HZ.out
            go_simp
            refine hK.out _ _ trivial (fun _ => ?_)
            clear hK K cl
            refine tk 12 hHeld ?_
            refine tk 13 hHeld ?_
            refine rd0 ?_
            go_wp2
            refine bodyPost_ret (v := .tuple #[v, .int .i64 q1, .int .i64 z, .int .i64 ev]) (by simp [results, Try.results6, go_sem, *]) rfl ?_
            exact ⟨v, m, N, F, qA, qC, _, _, _, rfl, hm, HV.out.lower hlo, HB.out⟩
        · skip
          go_simp
          go_at_call 26
          refine (edge_any _ b len cap _ HS.out).mono ?_
          rintro e v16 ⟨ev, rfl, hq0, hq1, hs, hb⟩
          have HB := Lib.hid (HB.out.trans (hb.below (B := w.heap.size) HB.out.size (Nat.le_refl _)))
          have HV := Lib.hid (HV.out.but hb hlt1)
          have HS := Lib.hid hs
          refine hK.out _ _ trivial (fun _ => ?_)
          clear hK K hs hb
          refine tk 10 hHeld ?_
          refine tk 11 hHeld ?_
          refine rd1 3 (fun K hK => ?_)
          go_simp
          obtain ⟨v17, hv17⟩ : ∃ x, x = v16.alloc (.cells #[.int .i64 0, .int .i64 40, .int .i64 41] 2) := ⟨_, rfl⟩
          obtain ⟨gt, hgt⟩ : ∃ x, x = (v16).heap.size := ⟨_, rfl⟩
          have hbA : But w.heap.size (v16) v17 := by rw [hv17]; exact (But.refl _ _).alloc _
          have hnB : gt ≠ w.heap.size := by have h9 := HS.out.lt; omega
          have HB := Lib.hid (HB.out.trans (hbA.below (B := w.heap.size) HB.out.size (Nat.le_refl _)))
          have HV := Lib.hid (HV.out.but hbA hlt1)
          have HT := Lib.hid (show Blk v17 gt 2 #[.int .i64 0, .int .i64 40, .int .i64 41] from by rw [hv17, hgt]; exact Blk.new (v16) _ _)
          have HS := Lib.hid (show Src w.heap.size b len cap v17 from by rw [hv17]; exact (HS.out.alloc _ : Src _ _ _ _ ((v16).alloc _)))
          rw [← hv17]
          rw [show v16.heap.size = gt from hgt.symm]
          clear hv17 hgt hbA
          refine hK.out _ _ trivial (fun _ => ?_)
          clear hK K
          refine tk 6 hHeld ?_
          refine rd1 7 (fun K hK => ?_)
          have cl : (v17).cell? ⟨gt, kk, none⟩ = some (.int .i64 z) := HT.out.at_ kk HZ.out
          go_simp
          refine hK.out _ _ trivial (fun _ => ?_)
          clear hK K cl
          refine tk 12 hHeld ?_
          refine tk 13 hHeld ?_
          refine rd0 ?_
          go_wp2
          refine bodyPost_ret (v := .tuple #[v, .int .i64 q1, .int .i64 z, .int .i64 ev]) (by simp [results, Try.results6, go_sem, *]) rfl ?_
          exact ⟨v, m, N, F, qA, qC, _, _, _, rfl, hm, HV.out.lower hlo, HB.out⟩
    · skip
      go_simp
      obtain ⟨v18, hv18⟩ : ∃ x, x = (w4.alloc (.cells #[.int .i64 0, .int .i64 40, .int .i64 41] 2)).drew := ⟨_, rfl⟩
      obtain ⟨gt, hgt⟩ : ∃ x, x = (w4.drew).heap.size := ⟨_, rfl⟩
      have hbA : But w.heap.size (w4.drew) v18 := by rw [hv18]; exact ((But.refl _ _).alloc _ : But _ _ ((World.drew _).alloc _))
      have hnB : gt ≠ w.heap.size := by have h9 := HS.out.lt; omega
      have HB := Lib.hid (HB.out.trans (hbA.below (B := w.heap.size) HB.out.size (Nat.le_refl _)))
      have HV := Lib.hid (HV.out.but hbA hlt1)
      have HT := Lib.hid (show Blk v18 gt 2 #[.int .i64 0, .int .i64 40, .int .i64 41] from by rw [hv18, hgt]; exact Blk.new (w4.drew) _ _)
      have HS := Lib.hid (show Src w.heap.size b len cap v18 from by rw [hv18]; exact (HS.out.alloc _ : Src _ _ _ _ ((w4.drew).alloc _)))
      rw [← hv18]
      rw [show w4.heap.size = gt from hgt.symm]
      clear hv18 hgt hbA
      refine hK.out _ _ trivial (fun _ => ?_)
      clear hK K
      refine rd1 2 (fun K hK => ?_)
      go_simp
      go_at_call 24
      refine (n_any _ b len cap 8 _ HS.out (by omega)).mono ?_
      rintro e v19 ⟨q1, rfl, hq0, hq1, hs, hb⟩
      have HB := Lib.hid (HB.out.trans (hb.below (B := w.heap.size) HB.out.size (Nat.le_refl _)))
      have HV := Lib.hid (HV.out.but hb hlt1)
      have HT := Lib.hid (blkBut HT.out hb hnB)
      have HS := Lib.hid hs
      refine hK.out _ _ trivial (fun _ => ?_)
      clear hK K hs hb hq0 hq1
      refine rd1 5 (fun K hK => ?_)
      go_simp
      go_at_call 24
      refine (n_any _ b len cap 3 _ HS.out (by omega)).mono ?_
      rintro e v20 ⟨q2, rfl, hq0, hq1, hs, hb⟩
      obtain ⟨kk, z, rfl, hkk, hz⟩ := tab3' (a := 0) (b := 40) (c := 41) hq0 hq1
      have hp : (0 : Int) ≤ (kk : Int) := Int.natCast_nonneg _
      have hu : (kk : Int) < 3 := by omega
      have HZ := Lib.hid hz
      clear hz
      have HB := Lib.hid (HB.out.trans (hb.below (B := w.heap.size) HB.out.size (Nat.le_refl _)))
      have HV := Lib.hid (HV.out.but hb hlt1)
      have HT := Lib.hid (blkBut HT.out hb hnB)
      have HS := Lib.hid hs
      refine hK.out _ _ trivial (fun _ => ?_)
      clear hK K hs hb hq0 hq1
      refine tk 6 hHeld ?_
      refine rd2 7 9 (fun K hK => ?_) (fun K hK => ?_)
      · skip
        have cl : (v20).cell? ⟨gt, kk, none⟩ = some (.int .i64 z) := HT.out.at_ kk HZ.out
        go_simp
        refine hK.out _ _ trivial (fun _ => ?_)
        clear hK K cl
        refine rd1 9 (fun K hK => ?_)
        go_simp
        go_at_call 26
        refine (edge_any _ b len cap _ HS.out).mono ?_
        rintro e v21 ⟨ev, rfl, hq0, hq1, hs, hb⟩
        have HB := Lib.hid (HB.out.trans (hb.below (B := w.heap.size) HB.out.size (Nat.le_refl _)))
        have HV := Lib.hid (HV.out.but hb hlt1)
        have HT := Lib.hid (blkBut HT.out hb hnB)
        have HS := Lib.hid hs
        refine hK.out _ _ trivial (fun _ => ?_)
        clear hK K hs hb
        refine tk 10 hHeld ?_
        refine tk 11 hHeld ?_
        refine tk 12 hHeld ?_
        refine tk 13 hHeld ?_
        refine rd0 ?_
        go_wp2
        refine bodyPost_ret (v := .tuple #[v, .int .i64 q1, .int .i64 z, .int .i64 ev]) (by simp [results, Try.results6, go_sem, *]) rfl ?_
        exact ⟨v, m, N, F, qA, qC, _, _, _, rfl, hm, HV.out.lower hlo, HB.out⟩
      · skip
        go_simp
        go_at_call 26
        refine (edge_any _ b len cap _ HS.out).mono ?_
        rintro e v22 ⟨ev, rfl, hq0, hq1, hs, hb⟩
        have HB := Lib.hid (HB.out.trans (hb.below (B := w.heap.size) HB.out.size (Nat.le_refl _)))
        have HV := Lib.hid (HV.out.but hb hlt1)
        have HT := Lib.hid (blkBut HT.out hb hnB)
        have HS := Lib.hid hs
        refine hK.out _ _ trivial (fun _ => ?_)
        clear hK K hs hb
        refine tk 10 hHeld ?_
        refine tk 11 hHeld ?_
        refine rd1 7 (fun K hK => ?_)
        have cl : (v22).cell? ⟨gt, kk, none⟩ = some (.int .i64 z) := HT.out.at_ kk HZ.out
        go_simp
        refine hK.out _ _ trivial (fun _ => ?_)
        clear hK K cl
        refine tk 12 hHeld ?_
        refine tk 13 hHeld ?_
        refine rd0 ?_
        go_wp2
        refine bodyPost_ret (v := .tuple #[v, .int .i64 q1, .int .i64 z, .int .i64 ev]) (by simp [results, Try.results6, go_sem, *]) rfl ?_
        exact ⟨v, m, N, F, qA, qC, _, _, _, rfl, hm, HV.out.lower hlo, HB.out⟩
end Go.Proofs.Ytphklknaagjmpaa.SpanC
