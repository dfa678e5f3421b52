/- The model's draws of labels: contracts: some label; which it is, no law asks. -/
import Derived.Test.YtdimpopkkjpddaaDoorDraws
import Derived.Test.YtdimpopkkjpddaaDoorRep3
namespace Go.Proofs.YtdimpopkkjpddaaDoor.DrawC
open Go.RowKit RepC
set_option linter.unusedVariables false
set_option linter.unusedSimpArgs false

theorem But.setNew {g : Nat} {a w : World} (h : But g a w) {p : Addr} (hp : a.heap.size ≤ p.block) (u : Value) : But g a (w.setCell p u) :=
  ⟨h.os, h.tape, h.output, by have := h.size; simpa [World.setCell] using this, fun k hk hg => (Below.heap_setCell w p u k (by omega)).trans (h.block k hk hg)⟩
theorem Blk.but {w w' : World} {k g : Nat} {t : TypeId} {cs : Array Value} (h : Blk w k t cs) (hb : But g w w') (hk : k ≠ g) : Blk w' k t cs := (hb.block k h.lt hk).trans h
theorem Src.setNew {g : Nat} {b : Option Addr} {len cap : Nat} {w : World} (h : Src g b len cap w) {p : Addr} (hp : g < p.block) (u : Value) : Src g b len cap (w.setCell p u) := h.mono ((Below.refl _ _).setCell hp u)
/-- some label -/
def DrawnL (g : Nat) (b : Option Addr) (len cap : Nat) (w : World) (e : Ending) (w' : World) : Prop := ∃ l s : Int, e = .returned (.agg #[.int .i64 l, .int .i64 s]) ∧ Src g b len cap w' ∧ But g w w'
theorem drawnL_elim {g : Nat} {b : Option Addr} {len cap : Nat} {w : World} {e : Ending} {w' : World} (h : DrawnL g b len cap w e w') : ∃ l s : Int, e = .returned (.agg #[.int .i64 l, .int .i64 s]) ∧ Src g b len cap w' ∧ But g w w' := h
theorem tab3 {v a b c : Int} (h0 : 0 ≤ v) (h1 : v < 3 ∨ v = 0) : ∃ (k : Nat) (z : Int), v = (k : Int) ∧ k < 3 ∧ (#[.int .i64 a, .int .i64 b, .int .i64 c] : Array Value)[k]? = some (.int .i64 z) := by
  have : v = 0 ∨ v = 1 ∨ v = 2 := by omega
  rcases this with rfl | rfl | rfl
  · exact ⟨0, a, rfl, by omega, rfl⟩
  · exact ⟨1, b, rfl, by omega, rfl⟩
  · exact ⟨2, c, rfl, by omega, rfl⟩

set_option maxRecDepth 100000 in
set_option maxHeartbeats 4000000 in
theorem label_any (g : Nat) (b : Option Addr) (len cap : Nat) (w : World) (h : Src g b len cap w) :
    Calls Tryd.prog 53 #[.pointer (some ⟨g, 0, none⟩)] w (DrawnL g b len cap w) := by
  have hg := h.lt
  have HS := Lib.hid (h.alloc (.cells #[.int .i64 0, .int .i64 0] 23))
  have HR := Lib.hid (Blk.new w 23 #[.int .i64 0, .int .i64 0])
  have hgr : w.heap.size ≠ g := by omega
  clear h
  go_enter Tryd.func53, Tryd.ntmps53
  go_wp2_with fail
  refine (one_any g b len cap 20 _ HS.out (by omega)).mono ?_
  rintro e w1 ⟨v, rfl, hs, hb⟩
  have HB1 := Lib.hid (((But.refl g w).alloc _).trans hb)
  have HR1 := Lib.hid (Blk.but HR.out hb hgr)
  have HS1 := Lib.hid hs
  have hlt1 := HR1.out.lt
  clear hs hb HS HR
  cases v with
  | false =>
    go_wp2_with fail
    refine (n_any g b len cap 3 _ HS1.out (by omega)).mono ?_
    rintro e w2 ⟨l, rfl, _, _, hs, hb⟩
    have HB2 := Lib.hid (HB1.out.trans hb)
    have HR2 := Lib.hid (Blk.but HR1.out hb hgr)
    have HS2 := Lib.hid hs
    clear hs hb
    go_wp2_with fail
    refine (n_any g b len cap 4 _ HS2.out (by omega)).mono ?_
    rintro e w3 ⟨s, rfl, _, _, hs, hb⟩
    have HB3 := Lib.hid (HB2.out.trans hb)
    have HR3 := Lib.hid (Blk.but HR2.out hb hgr)
    have HS3 := Lib.hid hs
    clear hs hb
    have r0 := HR3.out.at_ 0 rfl
    have r1 := HR3.out.at_ 1 rfl
    have f0 := HR3.out.soft 0
    have f1 := HR3.out.soft 1
    go_wp2
    refine bodyPost_ret (v := .agg #[.int .i64 l, .int .i64 s]) (by simp [results, Tryd.results53, go_sem, *]) rfl ?_
    exact ⟨l, s, rfl, (HS3.out.setNew (p := ⟨w.heap.size, 0, none⟩) hg _).setNew (p := ⟨w.heap.size, 1, none⟩) hg _, (HB3.out.setNew (p := ⟨w.heap.size, 0, none⟩) (Nat.le_refl _) _).setNew (p := ⟨w.heap.size, 1, none⟩) (Nat.le_refl _) _⟩
  | true =>
    go_wp2_with fail
    refine wp_region_held_drew (S := (fun _ => True)) (by kernel_rfl) trivial (fun hHeld => ?_)
    have HB := Lib.hid HB1.out.drew
    have HR := Lib.hid (Blk.but HR1.out (But.refl g w1).drew hgr)
    have HS := Lib.hid (HS1.out.mono (Below.refl _ _).drew)
    clear HB1 HR1 HS1
    (refine wpAnyH_take (i := 1) (v := ?hv1) rfl (by kernel_rfl) (by kernel_rfl) (by kernel_rfl) (fun _ _ _ h => h) (Or.inl ⟨by kernel_rfl, ?hy1⟩) hHeld ?hr1; case hy1 => (intro w hSw; (try dsimp only at hSw); go_simp; try with_reducible rfl))
    simp only [Act.put, List.getElem_toArray, List.getElem_cons_succ, List.getElem_cons_zero, List.setIfInBounds_toArray, List.set_cons_zero, List.set_cons_succ]
    (refine wpAnyH_take (i := 6) (v := ?hv2) rfl (by kernel_rfl) (by kernel_rfl) (by kernel_rfl) (fun _ _ _ h => h) (Or.inl ⟨by kernel_rfl, ?hy2⟩) hHeld ?hr2; case hy2 => (intro w hSw; (try dsimp only at hSw); go_simp; try with_reducible rfl))
    simp only [Act.put, List.getElem_toArray, List.getElem_cons_succ, List.getElem_cons_zero, List.setIfInBounds_toArray, List.set_cons_zero, List.set_cons_succ]
    refine wpAnyH_ready (rs := [0, 2, 5]) (by kernel_rfl) (by simp) ?_
    refine AllReadyH.cons rfl (fun K hK => ?_) (AllReadyH.cons rfl (fun K hK => ?_) (AllReadyH.cons rfl (fun K hK => ?_) (AllReadyH.nil)))
    · skip
      go_simp
      have hbA : But g (w1.drew) ((w1.drew).alloc (.cells #[.int .i64 (-1), .int .i64 3, .int .i64 4] 2)) := (But.refl _ _).alloc _
      have hwl : w.heap.size ≤ (w1.drew).heap.size := HB.out.size
      have HB := Lib.hid (HB.out.trans hbA)
      have HR := Lib.hid (Blk.but HR.out hbA hgr)
      have HT1 := Lib.hid (show Blk ((w1.drew).alloc (.cells #[.int .i64 (-1), .int .i64 3, .int .i64 4] 2)) (w1.heap.size) 2 #[.int .i64 (-1), .int .i64 3, .int .i64 4] from by have h9 := Blk.new (w1.drew) 2 #[.int .i64 (-1), .int .i64 3, .int .i64 4]; (try simp only [World.size_alloc, World.size_drew] at h9); exact h9)
      have HS := Lib.hid (HS.out.alloc (.cells #[.int .i64 (-1), .int .i64 3, .int .i64 4] 2))
      have hnB1 : w1.heap.size ≠ g := by have h9 := hwl; (try simp only [World.size_alloc, World.size_drew] at h9); omega
      refine hK.out _ _ trivial (fun _ => ?_)
      clear hK K hbA hwl
      try simp only [Act.put, List.getElem_toArray, List.getElem_cons_succ, List.getElem_cons_zero, List.setIfInBounds_toArray, List.set_cons_zero, List.set_cons_succ]
      refine wpAnyH_ready (rs := [2, 5]) (by kernel_rfl) (by simp) ?_
      refine AllReadyH.cons rfl (fun K hK => ?_) (AllReadyH.cons rfl (fun K hK => ?_) (AllReadyH.nil))
      · skip
        go_simp
        go_at_call 51
        refine (n_any g b len cap 3 _ HS.out (by omega)).mono ?_
        rintro e v1 ⟨q1, rfl, hq0, hq1, hs, hb⟩
        obtain ⟨k1, z1, rfl, hk1, hz1⟩ := tab3 (a := (-1)) (b := 3) (c := 4) hq0 hq1
        have hp1 : (0 : Int) ≤ (k1 : Int) := Int.natCast_nonneg _
        have hu1 : (k1 : Int) < 3 := by omega
        have HZ1 := Lib.hid hz1
        have HB := Lib.hid (HB.out.trans hb)
        have HR := Lib.hid (Blk.but HR.out hb hgr)
        have HT1 := Lib.hid (Blk.but HT1.out hb (by exact hnB1))
        have HS := Lib.hid hs
        refine hK.out _ _ trivial (fun _ => ?_)
        clear hK K hs hb hq0 hq1 hz1
        try simp only [Act.put, List.getElem_toArray, List.getElem_cons_succ, List.getElem_cons_zero, List.setIfInBounds_toArray, List.set_cons_zero, List.set_cons_succ]
        (refine wpAnyH_take (i := 3) (v := ?hv3) rfl (by kernel_rfl) (by kernel_rfl) (by kernel_rfl) (fun _ _ _ h => h) (Or.inl ⟨by kernel_rfl, ?hy3⟩) hHeld ?hr3; case hy3 => (intro w hSw; (try dsimp only at hSw); go_simp; try with_reducible rfl))
        simp only [Act.put, List.getElem_toArray, List.getElem_cons_succ, List.getElem_cons_zero, List.setIfInBounds_toArray, List.set_cons_zero, List.set_cons_succ]
        refine wpAnyH_ready (rs := [4, 5, 7]) (by kernel_rfl) (by simp) ?_
        refine AllReadyH.cons rfl (fun K hK => ?_) (AllReadyH.cons rfl (fun K hK => ?_) (AllReadyH.cons rfl (fun K hK => ?_) (AllReadyH.nil)))
        · skip
          have cl : (v1).cell? ⟨w1.heap.size, k1, none⟩ = some (.int .i64 z1) := HT1.out.at_ k1 HZ1.out
          go_simp
          refine hK.out _ _ trivial (fun _ => ?_)
          clear hK K cl
          try simp only [Act.put, List.getElem_toArray, List.getElem_cons_succ, List.getElem_cons_zero, List.setIfInBounds_toArray, List.set_cons_zero, List.set_cons_succ]
          refine wpAnyH_ready (rs := [5, 7]) (by kernel_rfl) (by simp) ?_
          refine AllReadyH.cons rfl (fun K hK => ?_) (AllReadyH.cons rfl (fun K hK => ?_) (AllReadyH.nil))
          · skip
            go_simp
            have hbA : But g (v1) (v1.alloc (.cells #[.int .i64 (-1), .int .i64 7, .int .i64 8] 2)) := (But.refl _ _).alloc _
            have hwl : w.heap.size ≤ (v1).heap.size := HB.out.size
            have HB := Lib.hid (HB.out.trans hbA)
            have HR := Lib.hid (Blk.but HR.out hbA hgr)
            have HT1 := Lib.hid (Blk.but HT1.out hbA (by exact hnB1))
            have HT2 := Lib.hid (show Blk (v1.alloc (.cells #[.int .i64 (-1), .int .i64 7, .int .i64 8] 2)) (v1.heap.size) 2 #[.int .i64 (-1), .int .i64 7, .int .i64 8] from by have h9 := Blk.new (v1) 2 #[.int .i64 (-1), .int .i64 7, .int .i64 8]; (try simp only [World.size_alloc, World.size_drew] at h9); exact h9)
            have HS := Lib.hid (HS.out.alloc (.cells #[.int .i64 (-1), .int .i64 7, .int .i64 8] 2))
            have hnB2 : v1.heap.size ≠ g := by have h9 := hwl; (try simp only [World.size_alloc, World.size_drew] at h9); omega
            refine hK.out _ _ trivial (fun _ => ?_)
            clear hK K hbA hwl
            try simp only [Act.put, List.getElem_toArray, List.getElem_cons_succ, List.getElem_cons_zero, List.setIfInBounds_toArray, List.set_cons_zero, List.set_cons_succ]
            refine wpAnyH_ready (rs := [7]) (by kernel_rfl) (by simp) ?_
            refine AllReadyH.cons rfl (fun K hK => ?_) (AllReadyH.nil)
            go_simp
            go_at_call 51
            refine (n_any g b len cap 3 _ HS.out (by omega)).mono ?_
            rintro e v2 ⟨q2, rfl, hq0, hq1, hs, hb⟩
            obtain ⟨k2, z2, rfl, hk2, hz2⟩ := tab3 (a := (-1)) (b := 7) (c := 8) hq0 hq1
            have hp2 : (0 : Int) ≤ (k2 : Int) := Int.natCast_nonneg _
            have hu2 : (k2 : Int) < 3 := by omega
            have HZ2 := Lib.hid hz2
            have HB := Lib.hid (HB.out.trans hb)
            have HR := Lib.hid (Blk.but HR.out hb hgr)
            have HT1 := Lib.hid (Blk.but HT1.out hb (by exact hnB1))
            have HT2 := Lib.hid (Blk.but HT2.out hb (by exact hnB2))
            have HS := Lib.hid hs
            refine hK.out _ _ trivial (fun _ => ?_)
            clear hK K hs hb hq0 hq1 hz2
            try simp only [Act.put, List.getElem_toArray, List.getElem_cons_succ, List.getElem_cons_zero, List.setIfInBounds_toArray, List.set_cons_zero, List.set_cons_succ]
            (refine wpAnyH_take (i := 8) (v := ?hv4) rfl (by kernel_rfl) (by kernel_rfl) (by kernel_rfl) (fun _ _ _ h => h) (Or.inl ⟨by kernel_rfl, ?hy4⟩) hHeld ?hr4; case hy4 => (intro w hSw; (try dsimp only at hSw); go_simp; try with_reducible rfl))
            simp only [Act.put, List.getElem_toArray, List.getElem_cons_succ, List.getElem_cons_zero, List.setIfInBounds_toArray, List.set_cons_zero, List.set_cons_succ]
            refine wpAnyH_ready (rs := [9]) (by kernel_rfl) (by simp) ?_
            refine AllReadyH.cons rfl (fun K hK => ?_) (AllReadyH.nil)
            have cl : (v2).cell? ⟨v1.heap.size, k2, none⟩ = some (.int .i64 z2) := HT2.out.at_ k2 HZ2.out
            go_simp
            refine hK.out _ _ trivial (fun _ => ?_)
            clear hK K cl
            try simp only [Act.put, List.getElem_toArray, List.getElem_cons_succ, List.getElem_cons_zero, List.setIfInBounds_toArray, List.set_cons_zero, List.set_cons_succ]
            (refine wpAnyH_take (i := 10) (v := ?hv5) rfl (by kernel_rfl) (by kernel_rfl) (by kernel_rfl) (fun _ _ _ h => h) (Or.inl ⟨by kernel_rfl, ?hy5⟩) hHeld ?hr5; case hy5 => (intro w hSw; (try dsimp only at hSw); go_simp; try with_reducible rfl))
            simp only [Act.put, List.getElem_toArray, List.getElem_cons_succ, List.getElem_cons_zero, List.setIfInBounds_toArray, List.set_cons_zero, List.set_cons_succ]
            refine wpAnyH_ready (rs := [11]) (by kernel_rfl) (by simp) ?_
            refine AllReadyH.cons rfl (fun K hK => ?_) (AllReadyH.nil)
            have r0 := HR.out.at_ 0 rfl
            have r1 := HR.out.at_ 1 rfl
            have f0 := HR.out.soft 0
            have f1 := HR.out.soft 1
            go_simp
            refine hK.out _ _ trivial (fun _ => ?_)
            clear hK K
            try simp only [Act.put, List.getElem_toArray, List.getElem_cons_succ, List.getElem_cons_zero, List.setIfInBounds_toArray, List.set_cons_zero, List.set_cons_succ]
            refine wpAnyH_done (by kernel_rfl) ?_ _
            go_wp2
            refine bodyPost_ret (v := .agg #[.int .i64 z1, .int .i64 z2]) (by simp [results, Tryd.results53, go_sem, *]) rfl ?_
            exact ⟨z1, z2, rfl, (HS.out.setNew (p := ⟨w.heap.size, 0, none⟩) hg _).setNew (p := ⟨w.heap.size, 1, none⟩) hg _, (HB.out.setNew (p := ⟨w.heap.size, 0, none⟩) (Nat.le_refl _) _).setNew (p := ⟨w.heap.size, 1, none⟩) (Nat.le_refl _) _⟩
          · skip
            go_simp
            go_at_call 51
            refine (n_any g b len cap 3 _ HS.out (by omega)).mono ?_
            rintro e v3 ⟨q2, rfl, hq0, hq1, hs, hb⟩
            obtain ⟨k2, z2, rfl, hk2, hz2⟩ := tab3 (a := (-1)) (b := 7) (c := 8) hq0 hq1
            have hp2 : (0 : Int) ≤ (k2 : Int) := Int.natCast_nonneg _
            have hu2 : (k2 : Int) < 3 := by omega
            have HZ2 := Lib.hid hz2
            have HB := Lib.hid (HB.out.trans hb)
            have HR := Lib.hid (Blk.but HR.out hb hgr)
            have HT1 := Lib.hid (Blk.but HT1.out hb (by exact hnB1))
            have HS := Lib.hid hs
            refine hK.out _ _ trivial (fun _ => ?_)
            clear hK K hs hb hq0 hq1 hz2
            try simp only [Act.put, List.getElem_toArray, List.getElem_cons_succ, List.getElem_cons_zero, List.setIfInBounds_toArray, List.set_cons_zero, List.set_cons_succ]
            refine wpAnyH_ready (rs := [5]) (by kernel_rfl) (by simp) ?_
            refine AllReadyH.cons rfl (fun K hK => ?_) (AllReadyH.nil)
            go_simp
            have hbA : But g (v3) (v3.alloc (.cells #[.int .i64 (-1), .int .i64 7, .int .i64 8] 2)) := (But.refl _ _).alloc _
            have hwl : w.heap.size ≤ (v3).heap.size := HB.out.size
            have HB := Lib.hid (HB.out.trans hbA)
            have HR := Lib.hid (Blk.but HR.out hbA hgr)
            have HT1 := Lib.hid (Blk.but HT1.out hbA (by exact hnB1))
            have HT2 := Lib.hid (show Blk (v3.alloc (.cells #[.int .i64 (-1), .int .i64 7, .int .i64 8] 2)) (v3.heap.size) 2 #[.int .i64 (-1), .int .i64 7, .int .i64 8] from by have h9 := Blk.new (v3) 2 #[.int .i64 (-1), .int .i64 7, .int .i64 8]; (try simp only [World.size_alloc, World.size_drew] at h9); exact h9)
            have HS := Lib.hid (HS.out.alloc (.cells #[.int .i64 (-1), .int .i64 7, .int .i64 8] 2))
            have hnB2 : v3.heap.size ≠ g := by have h9 := hwl; (try simp only [World.size_alloc, World.size_drew] at h9); omega
            refine hK.out _ _ trivial (fun _ => ?_)
            clear hK K hbA hwl
            try simp only [Act.put, List.getElem_toArray, List.getElem_cons_succ, List.getElem_cons_zero, List.setIfInBounds_toArray, List.set_cons_zero, List.set_cons_succ]
            (refine wpAnyH_take (i := 8) (v := ?hv6) rfl (by kernel_rfl) (by kernel_rfl) (by kernel_rfl) (fun _ _ _ h => h) (Or.inl ⟨by kernel_rfl, ?hy6⟩) hHeld ?hr6; case hy6 => (intro w hSw; (try dsimp only at hSw); go_simp; try with_reducible rfl))
            simp only [Act.put, List.getElem_toArray, List.getElem_cons_succ, List.getElem_cons_zero, List.setIfInBounds_toArray, List.set_cons_zero, List.set_cons_succ]
            refine wpAnyH_ready (rs := [9]) (by kernel_rfl) (by simp) ?_
            refine AllReadyH.cons rfl (fun K hK => ?_) (AllReadyH.nil)
            have cl : (v3.alloc (.cells #[.int .i64 (-1), .int .i64 7, .int .i64 8] 2)).cell? ⟨v3.heap.size, k2, none⟩ = some (.int .i64 z2) := HT2.out.at_ k2 HZ2.out
            go_simp
            refine hK.out _ _ trivial (fun _ => ?_)
            clear hK K cl
            try simp only [Act.put, List.getElem_toArray, List.getElem_cons_succ, List.getElem_cons_zero, List.setIfInBounds_toArray, List.set_cons_zero, List.set_cons_succ]
            (refine wpAnyH_take (i := 10) (v := ?hv7) rfl (by kernel_rfl) (by kernel_rfl) (by kernel_rfl) (fun _ _ _ h => h) (Or.inl ⟨by kernel_rfl, ?hy7⟩) hHeld ?hr7; case hy7 => (intro w hSw; (try dsimp only at hSw); go_simp; try with_reducible rfl))
            simp only [Act.put, List.getElem_toArray, List.getElem_cons_succ, List.getElem_cons_zero, List.setIfInBounds_toArray, List.set_cons_zero, List.set_cons_succ]
            refine wpAnyH_ready (rs := [11]) (by kernel_rfl) (by simp) ?_
            refine AllReadyH.cons rfl (fun K hK => ?_) (AllReadyH.nil)
            have r0 := HR.out.at_ 0 rfl
            have r1 := HR.out.at_ 1 rfl
            have f0 := HR.out.soft 0
            have f1 := HR.out.soft 1
            go_simp
            refine hK.out _ _ trivial (fun _ => ?_)
            clear hK K
            try simp only [Act.put, List.getElem_toArray, List.getElem_cons_succ, List.getElem_cons_zero, List.setIfInBounds_toArray, List.set_cons_zero, List.set_cons_succ]
            refine wpAnyH_done (by kernel_rfl) ?_ _
            go_wp2
            refine bodyPost_ret (v := .agg #[.int .i64 z1, .int .i64 z2]) (by simp [results, Tryd.results53, go_sem, *]) rfl ?_
            exact ⟨z1, z2, rfl, (HS.out.setNew (p := ⟨w.heap.size, 0, none⟩) hg _).setNew (p := ⟨w.heap.size, 1, none⟩) hg _, (HB.out.setNew (p := ⟨w.heap.size, 0, none⟩) (Nat.le_refl _) _).setNew (p := ⟨w.heap.size, 1, none⟩) (Nat.le_refl _) _⟩
        · skip
          go_simp
          have hbA : But g (v1) (v1.alloc (.cells #[.int .i64 (-1), .int .i64 7, .int .i64 8] 2)) := (But.refl _ _).alloc _
          have hwl : w.heap.size ≤ (v1).heap.size := HB.out.size
          have HB := Lib.hid (HB.out.trans hbA)
          have HR := Lib.hid (Blk.but HR.out hbA hgr)
          have HT1 := Lib.hid (Blk.but HT1.out hbA (by exact hnB1))
          have HT2 := Lib.hid (show Blk (v1.alloc (.cells #[.int .i64 (-1), .int .i64 7, .int .i64 8] 2)) (v1.heap.size) 2 #[.int .i64 (-1), .int .i64 7, .int .i64 8] from by have h9 := Blk.new (v1) 2 #[.int .i64 (-1), .int .i64 7, .int .i64 8]; (try simp only [World.size_alloc, World.size_drew] at h9); exact h9)
          have HS := Lib.hid (HS.out.alloc (.cells #[.int .i64 (-1), .int .i64 7, .int .i64 8] 2))
          have hnB2 : v1.heap.size ≠ g := by have h9 := hwl; (try simp only [World.size_alloc, World.size_drew] at h9); omega
          refine hK.out _ _ trivial (fun _ => ?_)
          clear hK K hbA hwl
          try simp only [Act.put, List.getElem_toArray, List.getElem_cons_succ, List.getElem_cons_zero, List.setIfInBounds_toArray, List.set_cons_zero, List.set_cons_succ]
          refine wpAnyH_ready (rs := [4, 7]) (by kernel_rfl) (by simp) ?_
          refine AllReadyH.cons rfl (fun K hK => ?_) (AllReadyH.cons rfl (fun K hK => ?_) (AllReadyH.nil))
          · skip
            have cl : (v1.alloc (.cells #[.int .i64 (-1), .int .i64 7, .int .i64 8] 2)).cell? ⟨w1.heap.size, k1, none⟩ = some (.int .i64 z1) := HT1.out.at_ k1 HZ1.out
            go_simp
            refine hK.out _ _ trivial (fun _ => ?_)
            clear hK K cl
            try simp only [Act.put, List.getElem_toArray, List.getElem_cons_succ, List.getElem_cons_zero, List.setIfInBounds_toArray, List.set_cons_zero, List.set_cons_succ]
            refine wpAnyH_ready (rs := [7]) (by kernel_rfl) (by simp) ?_
            refine AllReadyH.cons rfl (fun K hK => ?_) (AllReadyH.nil)
            go_simp
            go_at_call 51
            refine (n_any g b len cap 3 _ HS.out (by omega)).mono ?_
            rintro e v4 ⟨q2, rfl, hq0, hq1, hs, hb⟩
            obtain ⟨k2, z2, rfl, hk2, hz2⟩ := tab3 (a := (-1)) (b := 7) (c := 8) hq0 hq1
            have hp2 : (0 : Int) ≤ (k2 : Int) := Int.natCast_nonneg _
            have hu2 : (k2 : Int) < 3 := by omega
            have HZ2 := Lib.hid hz2
            have HB := Lib.hid (HB.out.trans hb)
            have HR := Lib.hid (Blk.but HR.out hb hgr)
            have HT1 := Lib.hid (Blk.but HT1.out hb (by exact hnB1))
            have HT2 := Lib.hid (Blk.but HT2.out hb (by exact hnB2))
            have HS := Lib.hid hs
            refine hK.out _ _ trivial (fun _ => ?_)
            clear hK K hs hb hq0 hq1 hz2
            try simp only [Act.put, List.getElem_toArray, List.getElem_cons_succ, List.getElem_cons_zero, List.setIfInBounds_toArray, List.set_cons_zero, List.set_cons_succ]
            (refine wpAnyH_take (i := 8) (v := ?hv8) rfl (by kernel_rfl) (by kernel_rfl) (by kernel_rfl) (fun _ _ _ h => h) (Or.inl ⟨by kernel_rfl, ?hy8⟩) hHeld ?hr8; case hy8 => (intro w hSw; (try dsimp only at hSw); go_simp; try with_reducible rfl))
            simp only [Act.put, List.getElem_toArray, List.getElem_cons_succ, List.getElem_cons_zero, List.setIfInBounds_toArray, List.set_cons_zero, List.set_cons_succ]
            refine wpAnyH_ready (rs := [9]) (by kernel_rfl) (by simp) ?_
            refine AllReadyH.cons rfl (fun K hK => ?_) (AllReadyH.nil)
            have cl : (v4).cell? ⟨v1.heap.size, k2, none⟩ = some (.int .i64 z2) := HT2.out.at_ k2 HZ2.out
            go_simp
            refine hK.out _ _ trivial (fun _ => ?_)
            clear hK K cl
            try simp only [Act.put, List.getElem_toArray, List.getElem_cons_succ, List.getElem_cons_zero, List.setIfInBounds_toArray, List.set_cons_zero, List.set_cons_succ]
            (refine wpAnyH_take (i := 10) (v := ?hv9) rfl (by kernel_rfl) (by kernel_rfl) (by kernel_rfl) (fun _ _ _ h => h) (Or.inl ⟨by kernel_rfl, ?hy9⟩) hHeld ?hr9; case hy9 => (intro w hSw; (try dsimp only at hSw); go_simp; try with_reducible rfl))
            simp only [Act.put, List.getElem_toArray, List.getElem_cons_succ, List.getElem_cons_zero, List.setIfInBounds_toArray, List.set_cons_zero, List.set_cons_succ]
            refine wpAnyH_ready (rs := [11]) (by kernel_rfl) (by simp) ?_
            refine AllReadyH.cons rfl (fun K hK => ?_) (AllReadyH.nil)
            have r0 := HR.out.at_ 0 rfl
            have r1 := HR.out.at_ 1 rfl
            have f0 := HR.out.soft 0
            have f1 := HR.out.soft 1
            go_simp
            refine hK.out _ _ trivial (fun _ => ?_)
            clear hK K
            try simp only [Act.put, List.getElem_toArray, List.getElem_cons_succ, List.getElem_cons_zero, List.setIfInBounds_toArray, List.set_cons_zero, List.set_cons_succ]
            refine wpAnyH_done (by kernel_rfl) ?_ _
            go_wp2
            refine bodyPost_ret (v := .agg #[.int .i64 z1, .int .i64 z2]) (by simp [results, Tryd.results53, go_sem, *]) rfl ?_
            exact ⟨z1, z2, rfl, (HS.out.setNew (p := ⟨w.heap.size, 0, none⟩) hg _).setNew (p := ⟨w.heap.size, 1, none⟩) hg _, (HB.out.setNew (p := ⟨w.heap.size, 0, none⟩) (Nat.le_refl _) _).setNew (p := ⟨w.heap.size, 1, none⟩) (Nat.le_refl _) _⟩
          · skip
            go_simp
            go_at_call 51
            refine (n_any g b len cap 3 _ HS.out (by omega)).mono ?_
            rintro e v5 ⟨q2, rfl, hq0, hq1, hs, hb⟩
            obtain ⟨k2, z2, rfl, hk2, hz2⟩ := tab3 (a := (-1)) (b := 7) (c := 8) hq0 hq1
            have hp2 : (0 : Int) ≤ (k2 : Int) := Int.natCast_nonneg _
            have hu2 : (k2 : Int) < 3 := by omega
            have HZ2 := Lib.hid hz2
            have HB := Lib.hid (HB.out.trans hb)
            have HR := Lib.hid (Blk.but HR.out hb hgr)
            have HT1 := Lib.hid (Blk.but HT1.out hb (by exact hnB1))
            have HT2 := Lib.hid (Blk.but HT2.out hb (by exact hnB2))
            have HS := Lib.hid hs
            refine hK.out _ _ trivial (fun _ => ?_)
            clear hK K hs hb hq0 hq1 hz2
            try simp only [Act.put, List.getElem_toArray, List.getElem_cons_succ, List.getElem_cons_zero, List.setIfInBounds_toArray, List.set_cons_zero, List.set_cons_succ]
            (refine wpAnyH_take (i := 8) (v := ?hv10) rfl (by kernel_rfl) (by kernel_rfl) (by kernel_rfl) (fun _ _ _ h => h) (Or.inl ⟨by kernel_rfl, ?hy10⟩) hHeld ?hr10; case hy10 => (intro w hSw; (try dsimp only at hSw); go_simp; try with_reducible rfl))
            simp only [Act.put, List.getElem_toArray, List.getElem_cons_succ, List.getElem_cons_zero, List.setIfInBounds_toArray, List.set_cons_zero, List.set_cons_succ]
            refine wpAnyH_ready (rs := [4, 9]) (by kernel_rfl) (by simp) ?_
            refine AllReadyH.cons rfl (fun K hK => ?_) (AllReadyH.cons rfl (fun K hK => ?_) (AllReadyH.nil))
            · skip
              have cl : (v5).cell? ⟨w1.heap.size, k1, none⟩ = some (.int .i64 z1) := HT1.out.at_ k1 HZ1.out
              go_simp
              refine hK.out _ _ trivial (fun _ => ?_)
              clear hK K cl
              try simp only [Act.put, List.getElem_toArray, List.getElem_cons_succ, List.getElem_cons_zero, List.setIfInBounds_toArray, List.set_cons_zero, List.set_cons_succ]
              refine wpAnyH_ready (rs := [9]) (by kernel_rfl) (by simp) ?_
              refine AllReadyH.cons rfl (fun K hK => ?_) (AllReadyH.nil)
              have cl : (v5).cell? ⟨v1.heap.size, k2, none⟩ = some (.int .i64 z2) := HT2.out.at_ k2 HZ2.out
              go_simp
              refine hK.out _ _ trivial (fun _ => ?_)
              clear hK K cl
              try simp only [Act.put, List.getElem_toArray, List.getElem_cons_succ, List.getElem_cons_zero, List.setIfInBounds_toArray, List.set_cons_zero, List.set_cons_succ]
              (refine wpAnyH_take (i := 10) (v := ?hv11) rfl (by kernel_rfl) (by kernel_rfl) (by kernel_rfl) (fun _ _ _ h => h) (Or.inl ⟨by kernel_rfl, ?hy11⟩) hHeld ?hr11; case hy11 => (intro w hSw; (try dsimp only at hSw); go_simp; try with_reducible rfl))
              simp only [Act.put, List.getElem_toArray, List.getElem_cons_succ, List.getElem_cons_zero, List.setIfInBounds_toArray, List.set_cons_zero, List.set_cons_succ]
              refine wpAnyH_ready (rs := [11]) (by kernel_rfl) (by simp) ?_
              refine AllReadyH.cons rfl (fun K hK => ?_) (AllReadyH.nil)
              have r0 := HR.out.at_ 0 rfl
              have r1 := HR.out.at_ 1 rfl
              have f0 := HR.out.soft 0
              have f1 := HR.out.soft 1
              go_simp
              refine hK.out _ _ trivial (fun _ => ?_)
              clear hK K
              try simp only [Act.put, List.getElem_toArray, List.getElem_cons_succ, List.getElem_cons_zero, List.setIfInBounds_toArray, List.set_cons_zero, List.set_cons_succ]
              refine wpAnyH_done (by kernel_rfl) ?_ _
              go_wp2
              refine bodyPost_ret (v := .agg #[.int .i64 z1, .int .i64 z2]) (by simp [results, Tryd.results53, go_sem, *]) rfl ?_
              exact ⟨z1, z2, rfl, (HS.out.setNew (p := ⟨w.heap.size, 0, none⟩) hg _).setNew (p := ⟨w.heap.size, 1, none⟩) hg _, (HB.out.setNew (p := ⟨w.heap.size, 0, none⟩) (Nat.le_refl _) _).setNew (p := ⟨w.heap.size, 1, none⟩) (Nat.le_refl _) _⟩
            · skip
              have cl : (v5).cell? ⟨v1.heap.size, k2, none⟩ = some (.int .i64 z2) := HT2.out.at_ k2 HZ2.out
              go_simp
              refine hK.out _ _ trivial (fun _ => ?_)
              clear hK K cl
              try simp only [Act.put, List.getElem_toArray, List.getElem_cons_succ, List.getElem_cons_zero, List.setIfInBounds_toArray, List.set_cons_zero, List.set_cons_succ]
              refine wpAnyH_ready (rs := [4]) (by kernel_rfl) (by simp) ?_
              refine AllReadyH.cons rfl (fun K hK => ?_) (AllReadyH.nil)
              have cl : (v5).cell? ⟨w1.heap.size, k1, none⟩ = some (.int .i64 z1) := HT1.out.at_ k1 HZ1.out
              go_simp
              refine hK.out _ _ trivial (fun _ => ?_)
              clear hK K cl
              try simp only [Act.put, List.getElem_toArray, List.getElem_cons_succ, List.getElem_cons_zero, List.setIfInBounds_toArray, List.set_cons_zero, List.set_cons_succ]
              (refine wpAnyH_take (i := 10) (v := ?hv12) rfl (by kernel_rfl) (by kernel_rfl) (by kernel_rfl) (fun _ _ _ h => h) (Or.inl ⟨by kernel_rfl, ?hy12⟩) hHeld ?hr12; case hy12 => (intro w hSw; (try dsimp only at hSw); go_simp; try with_reducible rfl))
              simp only [Act.put, List.getElem_toArray, List.getElem_cons_succ, List.getElem_cons_zero, List.setIfInBounds_toArray, List.set_cons_zero, List.set_cons_succ]
              refine wpAnyH_ready (rs := [11]) (by kernel_rfl) (by simp) ?_
              refine AllReadyH.cons rfl (fun K hK => ?_) (AllReadyH.nil)
              have r0 := HR.out.at_ 0 rfl
              have r1 := HR.out.at_ 1 rfl
              have f0 := HR.out.soft 0
              have f1 := HR.out.soft 1
              go_simp
              refine hK.out _ _ trivial (fun _ => ?_)
              clear hK K
              try simp only [Act.put, List.getElem_toArray, List.getElem_cons_succ, List.getElem_cons_zero, List.setIfInBounds_toArray, List.set_cons_zero, List.set_cons_succ]
              refine wpAnyH_done (by kernel_rfl) ?_ _
              go_wp2
              refine bodyPost_ret (v := .agg #[.int .i64 z1, .int .i64 z2]) (by simp [results, Tryd.results53, go_sem, *]) rfl ?_
              exact ⟨z1, z2, rfl, (HS.out.setNew (p := ⟨w.heap.size, 0, none⟩) hg _).setNew (p := ⟨w.heap.size, 1, none⟩) hg _, (HB.out.setNew (p := ⟨w.heap.size, 0, none⟩) (Nat.le_refl _) _).setNew (p := ⟨w.heap.size, 1, none⟩) (Nat.le_refl _) _⟩
        · skip
          go_simp
          go_at_call 51
          refine (n_any g b len cap 3 _ HS.out (by omega)).mono ?_
          rintro e v6 ⟨q2, rfl, hq0, hq1, hs, hb⟩
          obtain ⟨k2, z2, rfl, hk2, hz2⟩ := tab3 (a := (-1)) (b := 7) (c := 8) hq0 hq1
          have hp2 : (0 : Int) ≤ (k2 : Int) := Int.natCast_nonneg _
          have hu2 : (k2 : Int) < 3 := by omega
          have HZ2 := Lib.hid hz2
          have HB := Lib.hid (HB.out.trans hb)
          have HR := Lib.hid (Blk.but HR.out hb hgr)
          have HT1 := Lib.hid (Blk.but HT1.out hb (by exact hnB1))
          have HS := Lib.hid hs
          refine hK.out _ _ trivial (fun _ => ?_)
          clear hK K hs hb hq0 hq1 hz2
          try simp only [Act.put, List.getElem_toArray, List.getElem_cons_succ, List.getElem_cons_zero, List.setIfInBounds_toArray, List.set_cons_zero, List.set_cons_succ]
          refine wpAnyH_ready (rs := [4, 5]) (by kernel_rfl) (by simp) ?_
          refine AllReadyH.cons rfl (fun K hK => ?_) (AllReadyH.cons rfl (fun K hK => ?_) (AllReadyH.nil))
          · skip
            have cl : (v6).cell? ⟨w1.heap.size, k1, none⟩ = some (.int .i64 z1) := HT1.out.at_ k1 HZ1.out
            go_simp
            refine hK.out _ _ trivial (fun _ => ?_)
            clear hK K cl
            try simp only [Act.put, List.getElem_toArray, List.getElem_cons_succ, List.getElem_cons_zero, List.setIfInBounds_toArray, List.set_cons_zero, List.set_cons_succ]
            refine wpAnyH_ready (rs := [5]) (by kernel_rfl) (by simp) ?_
            refine AllReadyH.cons rfl (fun K hK => ?_) (AllReadyH.nil)
            go_simp
            have hbA : But g (v6) (v6.alloc (.cells #[.int .i64 (-1), .int .i64 7, .int .i64 8] 2)) := (But.refl _ _).alloc _
            have hwl : w.heap.size ≤ (v6).heap.size := HB.out.size
            have HB := Lib.hid (HB.out.trans hbA)
            have HR := Lib.hid (Blk.but HR.out hbA hgr)
            have HT1 := Lib.hid (Blk.but HT1.out hbA (by exact hnB1))
            have HT2 := Lib.hid (show Blk (v6.alloc (.cells #[.int .i64 (-1), .int .i64 7, .int .i64 8] 2)) (v6.heap.size) 2 #[.int .i64 (-1), .int .i64 7, .int .i64 8] from by have h9 := Blk.new (v6) 2 #[.int .i64 (-1), .int .i64 7, .int .i64 8]; (try simp only [World.size_alloc, World.size_drew] at h9); exact h9)
            have HS := Lib.hid (HS.out.alloc (.cells #[.int .i64 (-1), .int .i64 7, .int .i64 8] 2))
            have hnB2 : v6.heap.size ≠ g := by have h9 := hwl; (try simp only [World.size_alloc, World.size_drew] at h9); omega
            refine hK.out _ _ trivial (fun _ => ?_)
            clear hK K hbA hwl
            try simp only [Act.put, List.getElem_toArray, List.getElem_cons_succ, List.getElem_cons_zero, List.setIfInBounds_toArray, List.set_cons_zero, List.set_cons_succ]
            (refine wpAnyH_take (i := 8) (v := ?hv13) rfl (by kernel_rfl) (by kernel_rfl) (by kernel_rfl) (fun _ _ _ h => h) (Or.inl ⟨by kernel_rfl, ?hy13⟩) hHeld ?hr13; case hy13 => (intro w hSw; (try dsimp only at hSw); go_simp; try with_reducible rfl))
            simp only [Act.put, List.getElem_toArray, List.getElem_cons_succ, List.getElem_cons_zero, List.setIfInBounds_toArray, List.set_cons_zero, List.set_cons_succ]
            refine wpAnyH_ready (rs := [9]) (by kernel_rfl) (by simp) ?_
            refine AllReadyH.cons rfl (fun K hK => ?_) (AllReadyH.nil)
            have cl : (v6.alloc (.cells #[.int .i64 (-1), .int .i64 7, .int .i64 8] 2)).cell? ⟨v6.heap.size, k2, none⟩ = some (.int .i64 z2) := HT2.out.at_ k2 HZ2.out
            go_simp
            refine hK.out _ _ trivial (fun _ => ?_)
            clear hK K cl
            try simp only [Act.put, List.getElem_toArray, List.getElem_cons_succ, List.getElem_cons_zero, List.setIfInBounds_toArray, List.set_cons_zero, List.set_cons_succ]
            (refine wpAnyH_take (i := 10) (v := ?hv14) rfl (by kernel_rfl) (by kernel_rfl) (by kernel_rfl) (fun _ _ _ h => h) (Or.inl ⟨by kernel_rfl, ?hy14⟩) hHeld ?hr14; case hy14 => (intro w hSw; (try dsimp only at hSw); go_simp; try with_reducible rfl))
            simp only [Act.put, List.getElem_toArray, List.getElem_cons_succ, List.getElem_cons_zero, List.setIfInBounds_toArray, List.set_cons_zero, List.set_cons_succ]
            refine wpAnyH_ready (rs := [11]) (by kernel_rfl) (by simp) ?_
            refine AllReadyH.cons rfl (fun K hK => ?_) (AllReadyH.nil)
            have r0 := HR.out.at_ 0 rfl
            have r1 := HR.out.at_ 1 rfl
            have f0 := HR.out.soft 0
            have f1 := HR.out.soft 1
            go_simp
            refine hK.out _ _ trivial (fun _ => ?_)
            clear hK K
            try simp only [Act.put, List.getElem_toArray, List.getElem_cons_succ, List.getElem_cons_zero, List.setIfInBounds_toArray, List.set_cons_zero, List.set_cons_succ]
            refine wpAnyH_done (by kernel_rfl) ?_ _
            go_wp2
            refine bodyPost_ret (v := .agg #[.int .i64 z1, .int .i64 z2]) (by simp [results, Tryd.results53, go_sem, *]) rfl ?_
            exact ⟨z1, z2, rfl, (HS.out.setNew (p := ⟨w.heap.size, 0, none⟩) hg _).setNew (p := ⟨w.heap.size, 1, none⟩) hg _, (HB.out.setNew (p := ⟨w.heap.size, 0, none⟩) (Nat.le_refl _) _).setNew (p := ⟨w.heap.size, 1, none⟩) (Nat.le_refl _) _⟩
          · skip
            go_simp
            have hbA : But g (v6) (v6.alloc (.cells #[.int .i64 (-1), .int .i64 7, .int .i64 8] 2)) := (But.refl _ _).alloc _
            have hwl : w.heap.size ≤ (v6).heap.size := HB.out.size
            have HB := Lib.hid (HB.out.trans hbA)
            have HR := Lib.hid (Blk.but HR.out hbA hgr)
            have HT1 := Lib.hid (Blk.but HT1.out hbA (by exact hnB1))
            have HT2 := Lib.hid (show Blk (v6.alloc (.cells #[.int .i64 (-1), .int .i64 7, .int .i64 8] 2)) (v6.heap.size) 2 #[.int .i64 (-1), .int .i64 7, .int .i64 8] from by have h9 := Blk.new (v6) 2 #[.int .i64 (-1), .int .i64 7, .int .i64 8]; (try simp only [World.size_alloc, World.size_drew] at h9); exact h9)
            have HS := Lib.hid (HS.out.alloc (.cells #[.int .i64 (-1), .int .i64 7, .int .i64 8] 2))
            have hnB2 : v6.heap.size ≠ g := by have h9 := hwl; (try simp only [World.size_alloc, World.size_drew] at h9); omega
            refine hK.out _ _ trivial (fun _ => ?_)
            clear hK K hbA hwl
            try simp only [Act.put, List.getElem_toArray, List.getElem_cons_succ, List.getElem_cons_zero, List.setIfInBounds_toArray, List.set_cons_zero, List.set_cons_succ]
            (refine wpAnyH_take (i := 8) (v := ?hv15) rfl (by kernel_rfl) (by kernel_rfl) (by kernel_rfl) (fun _ _ _ h => h) (Or.inl ⟨by kernel_rfl, ?hy15⟩) hHeld ?hr15; case hy15 => (intro w hSw; (try dsimp only at hSw); go_simp; try with_reducible rfl))
            simp only [Act.put, List.getElem_toArray, List.getElem_cons_succ, List.getElem_cons_zero, List.setIfInBounds_toArray, List.set_cons_zero, List.set_cons_succ]
            refine wpAnyH_ready (rs := [4, 9]) (by kernel_rfl) (by simp) ?_
            refine AllReadyH.cons rfl (fun K hK => ?_) (AllReadyH.cons rfl (fun K hK => ?_) (AllReadyH.nil))
            · skip
              have cl : (v6.alloc (.cells #[.int .i64 (-1), .int .i64 7, .int .i64 8] 2)).cell? ⟨w1.heap.size, k1, none⟩ = some (.int .i64 z1) := HT1.out.at_ k1 HZ1.out
              go_simp
              refine hK.out _ _ trivial (fun _ => ?_)
              clear hK K cl
              try simp only [Act.put, List.getElem_toArray, List.getElem_cons_succ, List.getElem_cons_zero, List.setIfInBounds_toArray, List.set_cons_zero, List.set_cons_succ]
              refine wpAnyH_ready (rs := [9]) (by kernel_rfl) (by simp) ?_
              refine AllReadyH.cons rfl (fun K hK => ?_) (AllReadyH.nil)
              have cl : (v6.alloc (.cells #[.int .i64 (-1), .int .i64 7, .int .i64 8] 2)).cell? ⟨v6.heap.size, k2, none⟩ = some (.int .i64 z2) := HT2.out.at_ k2 HZ2.out
              go_simp
              refine hK.out _ _ trivial (fun _ => ?_)
              clear hK K cl
              try simp only [Act.put, List.getElem_toArray, List.getElem_cons_succ, List.getElem_cons_zero, List.setIfInBounds_toArray, List.set_cons_zero, List.set_cons_succ]
              (refine wpAnyH_take (i := 10) (v := ?hv16) rfl (by kernel_rfl) (by kernel_rfl) (by kernel_rfl) (fun _ _ _ h => h) (Or.inl ⟨by kernel_rfl, ?hy16⟩) hHeld ?hr16; case hy16 => (intro w hSw; (try dsimp only at hSw); go_simp; try with_reducible rfl))
              simp only [Act.put, List.getElem_toArray, List.getElem_cons_succ, List.getElem_cons_zero, List.setIfInBounds_toArray, List.set_cons_zero, List.set_cons_succ]
              refine wpAnyH_ready (rs := [11]) (by kernel_rfl) (by simp) ?_
              refine AllReadyH.cons rfl (fun K hK => ?_) (AllReadyH.nil)
              have r0 := HR.out.at_ 0 rfl
              have r1 := HR.out.at_ 1 rfl
              have f0 := HR.out.soft 0
              have f1 := HR.out.soft 1
              go_simp
              refine hK.out _ _ trivial (fun _ => ?_)
              clear hK K
              try simp only [Act.put, List.getElem_toArray, List.getElem_cons_succ, List.getElem_cons_zero, List.setIfInBounds_toArray, List.set_cons_zero, List.set_cons_succ]
              refine wpAnyH_done (by kernel_rfl) ?_ _
              go_wp2
              refine bodyPost_ret (v := .agg #[.int .i64 z1, .int .i64 z2]) (by simp [results, Tryd.results53, go_sem, *]) rfl ?_
              exact ⟨z1, z2, rfl, (HS.out.setNew (p := ⟨w.heap.size, 0, none⟩) hg _).setNew (p := ⟨w.heap.size, 1, none⟩) hg _, (HB.out.setNew (p := ⟨w.heap.size, 0, none⟩) (Nat.le_refl _) _).setNew (p := ⟨w.heap.size, 1, none⟩) (Nat.le_refl _) _⟩
            · skip
              have cl : (v6.alloc (.cells #[.int .i64 (-1), .int .i64 7, .int .i64 8] 2)).cell? ⟨v6.heap.size, k2, none⟩ = some (.int .i64 z2) := HT2.out.at_ k2 HZ2.out
              go_simp
              refine hK.out _ _ trivial (fun _ => ?_)
              clear hK K cl
              try simp only [Act.put, List.getElem_toArray, List.getElem_cons_succ, List.getElem_cons_zero, List.setIfInBounds_toArray, List.set_cons_zero, List.set_cons_succ]
              refine wpAnyH_ready (rs := [4]) (by kernel_rfl) (by simp) ?_
              refine AllReadyH.cons rfl (fun K hK => ?_) (AllReadyH.nil)
              have cl : (v6.alloc (.cells #[.int .i64 (-1), .int .i64 7, .int .i64 8] 2)).cell? ⟨w1.heap.size, k1, none⟩ = some (.int .i64 z1) := HT1.out.at_ k1 HZ1.out
              go_simp
              refine hK.out _ _ trivial (fun _ => ?_)
              clear hK K cl
              try simp only [Act.put, List.getElem_toArray, List.getElem_cons_succ, List.getElem_cons_zero, List.setIfInBounds_toArray, List.set_cons_zero, List.set_cons_succ]
              (refine wpAnyH_take (i := 10) (v := ?hv17) rfl (by kernel_rfl) (by kernel_rfl) (by kernel_rfl) (fun _ _ _ h => h) (Or.inl ⟨by kernel_rfl, ?hy17⟩) hHeld ?hr17; case hy17 => (intro w hSw; (try dsimp only at hSw); go_simp; try with_reducible rfl))
              simp only [Act.put, List.getElem_toArray, List.getElem_cons_succ, List.getElem_cons_zero, List.setIfInBounds_toArray, List.set_cons_zero, List.set_cons_succ]
              refine wpAnyH_ready (rs := [11]) (by kernel_rfl) (by simp) ?_
              refine AllReadyH.cons rfl (fun K hK => ?_) (AllReadyH.nil)
              have r0 := HR.out.at_ 0 rfl
              have r1 := HR.out.at_ 1 rfl
              have f0 := HR.out.soft 0
              have f1 := HR.out.soft 1
              go_simp
              refine hK.out _ _ trivial (fun _ => ?_)
              clear hK K
              try simp only [Act.put, List.getElem_toArray, List.getElem_cons_succ, List.getElem_cons_zero, List.setIfInBounds_toArray, List.set_cons_zero, List.set_cons_succ]
              refine wpAnyH_done (by kernel_rfl) ?_ _
              go_wp2
              refine bodyPost_ret (v := .agg #[.int .i64 z1, .int .i64 z2]) (by simp [results, Tryd.results53, go_sem, *]) rfl ?_
              exact ⟨z1, z2, rfl, (HS.out.setNew (p := ⟨w.heap.size, 0, none⟩) hg _).setNew (p := ⟨w.heap.size, 1, none⟩) hg _, (HB.out.setNew (p := ⟨w.heap.size, 0, none⟩) (Nat.le_refl _) _).setNew (p := ⟨w.heap.size, 1, none⟩) (Nat.le_refl _) _⟩
      · skip
        go_simp
        have hbA : But g ((w1.drew).alloc (.cells #[.int .i64 (-1), .int .i64 3, .int .i64 4] 2)) (((w1.drew).alloc (.cells #[.int .i64 (-1), .int .i64 3, .int .i64 4] 2)).alloc (.cells #[.int .i64 (-1), .int .i64 7, .int .i64 8] 2)) := (But.refl _ _).alloc _
        have hwl : w.heap.size ≤ ((w1.drew).alloc (.cells #[.int .i64 (-1), .int .i64 3, .int .i64 4] 2)).heap.size := HB.out.size
        have HB := Lib.hid (HB.out.trans hbA)
        have HR := Lib.hid (Blk.but HR.out hbA hgr)
        have HT1 := Lib.hid (Blk.but HT1.out hbA (by exact hnB1))
        have HT2 := Lib.hid (show Blk (((w1.drew).alloc (.cells #[.int .i64 (-1), .int .i64 3, .int .i64 4] 2)).alloc (.cells #[.int .i64 (-1), .int .i64 7, .int .i64 8] 2)) (w1.heap.size + 1) 2 #[.int .i64 (-1), .int .i64 7, .int .i64 8] from by have h9 := Blk.new ((w1.drew).alloc (.cells #[.int .i64 (-1), .int .i64 3, .int .i64 4] 2)) 2 #[.int .i64 (-1), .int .i64 7, .int .i64 8]; (try simp only [World.size_alloc, World.size_drew] at h9); exact h9)
        have HS := Lib.hid (HS.out.alloc (.cells #[.int .i64 (-1), .int .i64 7, .int .i64 8] 2))
        have hnB2 : w1.heap.size + 1 ≠ g := by have h9 := hwl; (try simp only [World.size_alloc, World.size_drew] at h9); omega
        refine hK.out _ _ trivial (fun _ => ?_)
        clear hK K hbA hwl
        try simp only [Act.put, List.getElem_toArray, List.getElem_cons_succ, List.getElem_cons_zero, List.setIfInBounds_toArray, List.set_cons_zero, List.set_cons_succ]
        refine wpAnyH_ready (rs := [2]) (by kernel_rfl) (by simp) ?_
        refine AllReadyH.cons rfl (fun K hK => ?_) (AllReadyH.nil)
        go_simp
        go_at_call 51
        refine (n_any g b len cap 3 _ HS.out (by omega)).mono ?_
        rintro e v7 ⟨q1, rfl, hq0, hq1, hs, hb⟩
        obtain ⟨k1, z1, rfl, hk1, hz1⟩ := tab3 (a := (-1)) (b := 3) (c := 4) hq0 hq1
        have hp1 : (0 : Int) ≤ (k1 : Int) := Int.natCast_nonneg _
        have hu1 : (k1 : Int) < 3 := by omega
        have HZ1 := Lib.hid hz1
        have HB := Lib.hid (HB.out.trans hb)
        have HR := Lib.hid (Blk.but HR.out hb hgr)
        have HT1 := Lib.hid (Blk.but HT1.out hb (by exact hnB1))
        have HT2 := Lib.hid (Blk.but HT2.out hb (by exact hnB2))
        have HS := Lib.hid hs
        refine hK.out _ _ trivial (fun _ => ?_)
        clear hK K hs hb hq0 hq1 hz1
        try simp only [Act.put, List.getElem_toArray, List.getElem_cons_succ, List.getElem_cons_zero, List.setIfInBounds_toArray, List.set_cons_zero, List.set_cons_succ]
        (refine wpAnyH_take (i := 3) (v := ?hv18) rfl (by kernel_rfl) (by kernel_rfl) (by kernel_rfl) (fun _ _ _ h => h) (Or.inl ⟨by kernel_rfl, ?hy18⟩) hHeld ?hr18; case hy18 => (intro w hSw; (try dsimp only at hSw); go_simp; try with_reducible rfl))
        simp only [Act.put, List.getElem_toArray, List.getElem_cons_succ, List.getElem_cons_zero, List.setIfInBounds_toArray, List.set_cons_zero, List.set_cons_succ]
        refine wpAnyH_ready (rs := [4, 7]) (by kernel_rfl) (by simp) ?_
        refine AllReadyH.cons rfl (fun K hK => ?_) (AllReadyH.cons rfl (fun K hK => ?_) (AllReadyH.nil))
        · skip
          have cl : (v7).cell? ⟨w1.heap.size, k1, none⟩ = some (.int .i64 z1) := HT1.out.at_ k1 HZ1.out
          go_simp
          refine hK.out _ _ trivial (fun _ => ?_)
          clear hK K cl
          try simp only [Act.put, List.getElem_toArray, List.getElem_cons_succ, List.getElem_cons_zero, List.setIfInBounds_toArray, List.set_cons_zero, List.set_cons_succ]
          refine wpAnyH_ready (rs := [7]) (by kernel_rfl) (by simp) ?_
          refine AllReadyH.cons rfl (fun K hK => ?_) (AllReadyH.nil)
          go_simp
          go_at_call 51
          refine (n_any g b len cap 3 _ HS.out (by omega)).mono ?_
          rintro e v8 ⟨q2, rfl, hq0, hq1, hs, hb⟩
          obtain ⟨k2, z2, rfl, hk2, hz2⟩ := tab3 (a := (-1)) (b := 7) (c := 8) hq0 hq1
          have hp2 : (0 : Int) ≤ (k2 : Int) := Int.natCast_nonneg _
          have hu2 : (k2 : Int) < 3 := by omega
          have HZ2 := Lib.hid hz2
          have HB := Lib.hid (HB.out.trans hb)
          have HR := Lib.hid (Blk.but HR.out hb hgr)
          have HT1 := Lib.hid (Blk.but HT1.out hb (by exact hnB1))
          have HT2 := Lib.hid (Blk.but HT2.out hb (by exact hnB2))
          have HS := Lib.hid hs
          refine hK.out _ _ trivial (fun _ => ?_)
          clear hK K hs hb hq0 hq1 hz2
          try simp only [Act.put, List.getElem_toArray, List.getElem_cons_succ, List.getElem_cons_zero, List.setIfInBounds_toArray, List.set_cons_zero, List.set_cons_succ]
          (refine wpAnyH_take (i := 8) (v := ?hv19) rfl (by kernel_rfl) (by kernel_rfl) (by kernel_rfl) (fun _ _ _ h => h) (Or.inl ⟨by kernel_rfl, ?hy19⟩) hHeld ?hr19; case hy19 => (intro w hSw; (try dsimp only at hSw); go_simp; try with_reducible rfl))
          simp only [Act.put, List.getElem_toArray, List.getElem_cons_succ, List.getElem_cons_zero, List.setIfInBounds_toArray, List.set_cons_zero, List.set_cons_succ]
          refine wpAnyH_ready (rs := [9]) (by kernel_rfl) (by simp) ?_
          refine AllReadyH.cons rfl (fun K hK => ?_) (AllReadyH.nil)
          have cl : (v8).cell? ⟨w1.heap.size + 1, k2, none⟩ = some (.int .i64 z2) := HT2.out.at_ k2 HZ2.out
          go_simp
          refine hK.out _ _ trivial (fun _ => ?_)
          clear hK K cl
          try simp only [Act.put, List.getElem_toArray, List.getElem_cons_succ, List.getElem_cons_zero, List.setIfInBounds_toArray, List.set_cons_zero, List.set_cons_succ]
          (refine wpAnyH_take (i := 10) (v := ?hv20) rfl (by kernel_rfl) (by kernel_rfl) (by kernel_rfl) (fun _ _ _ h => h) (Or.inl ⟨by kernel_rfl, ?hy20⟩) hHeld ?hr20; case hy20 => (intro w hSw; (try dsimp only at hSw); go_simp; try with_reducible rfl))
          simp only [Act.put, List.getElem_toArray, List.getElem_cons_succ, List.getElem_cons_zero, List.setIfInBounds_toArray, List.set_cons_zero, List.set_cons_succ]
          refine wpAnyH_ready (rs := [11]) (by kernel_rfl) (by simp) ?_
          refine AllReadyH.cons rfl (fun K hK => ?_) (AllReadyH.nil)
          have r0 := HR.out.at_ 0 rfl
          have r1 := HR.out.at_ 1 rfl
          have f0 := HR.out.soft 0
          have f1 := HR.out.soft 1
          go_simp
          refine hK.out _ _ trivial (fun _ => ?_)
          clear hK K
          try simp only [Act.put, List.getElem_toArray, List.getElem_cons_succ, List.getElem_cons_zero, List.setIfInBounds_toArray, List.set_cons_zero, List.set_cons_succ]
          refine wpAnyH_done (by kernel_rfl) ?_ _
          go_wp2
          refine bodyPost_ret (v := .agg #[.int .i64 z1, .int .i64 z2]) (by simp [results, Tryd.results53, go_sem, *]) rfl ?_
          exact ⟨z1, z2, rfl, (HS.out.setNew (p := ⟨w.heap.size, 0, none⟩) hg _).setNew (p := ⟨w.heap.size, 1, none⟩) hg _, (HB.out.setNew (p := ⟨w.heap.size, 0, none⟩) (Nat.le_refl _) _).setNew (p := ⟨w.heap.size, 1, none⟩) (Nat.le_refl _) _⟩
        · skip
          go_simp
          go_at_call 51
          refine (n_any g b len cap 3 _ HS.out (by omega)).mono ?_
          rintro e v9 ⟨q2, rfl, hq0, hq1, hs, hb⟩
          obtain ⟨k2, z2, rfl, hk2, hz2⟩ := tab3 (a := (-1)) (b := 7) (c := 8) hq0 hq1
          have hp2 : (0 : Int) ≤ (k2 : Int) := Int.natCast_nonneg _
          have hu2 : (k2 : Int) < 3 := by omega
          have HZ2 := Lib.hid hz2
          have HB := Lib.hid (HB.out.trans hb)
          have HR := Lib.hid (Blk.but HR.out hb hgr)
          have HT1 := Lib.hid (Blk.but HT1.out hb (by exact hnB1))
          have HT2 := Lib.hid (Blk.but HT2.out hb (by exact hnB2))
          have HS := Lib.hid hs
          refine hK.out _ _ trivial (fun _ => ?_)
          clear hK K hs hb hq0 hq1 hz2
          try simp only [Act.put, List.getElem_toArray, List.getElem_cons_succ, List.getElem_cons_zero, List.setIfInBounds_toArray, List.set_cons_zero, List.set_cons_succ]
          (refine wpAnyH_take (i := 8) (v := ?hv21) rfl (by kernel_rfl) (by kernel_rfl) (by kernel_rfl) (fun _ _ _ h => h) (Or.inl ⟨by kernel_rfl, ?hy21⟩) hHeld ?hr21; case hy21 => (intro w hSw; (try dsimp only at hSw); go_simp; try with_reducible rfl))
          simp only [Act.put, List.getElem_toArray, List.getElem_cons_succ, List.getElem_cons_zero, List.setIfInBounds_toArray, List.set_cons_zero, List.set_cons_succ]
          refine wpAnyH_ready (rs := [4, 9]) (by kernel_rfl) (by simp) ?_
          refine AllReadyH.cons rfl (fun K hK => ?_) (AllReadyH.cons rfl (fun K hK => ?_) (AllReadyH.nil))
          · skip
            have cl : (v9).cell? ⟨w1.heap.size, k1, none⟩ = some (.int .i64 z1) := HT1.out.at_ k1 HZ1.out
            go_simp
            refine hK.out _ _ trivial (fun _ => ?_)
            clear hK K cl
            try simp only [Act.put, List.getElem_toArray, List.getElem_cons_succ, List.getElem_cons_zero, List.setIfInBounds_toArray, List.set_cons_zero, List.set_cons_succ]
            refine wpAnyH_ready (rs := [9]) (by kernel_rfl) (by simp) ?_
            refine AllReadyH.cons rfl (fun K hK => ?_) (AllReadyH.nil)
            have cl : (v9).cell? ⟨w1.heap.size + 1, k2, none⟩ = some (.int .i64 z2) := HT2.out.at_ k2 HZ2.out
            go_simp
            refine hK.out _ _ trivial (fun _ => ?_)
            clear hK K cl
            try simp only [Act.put, List.getElem_toArray, List.getElem_cons_succ, List.getElem_cons_zero, List.setIfInBounds_toArray, List.set_cons_zero, List.set_cons_succ]
            (refine wpAnyH_take (i := 10) (v := ?hv22) rfl (by kernel_rfl) (by kernel_rfl) (by kernel_rfl) (fun _ _ _ h => h) (Or.inl ⟨by kernel_rfl, ?hy22⟩) hHeld ?hr22; case hy22 => (intro w hSw; (try dsimp only at hSw); go_simp; try with_reducible rfl))
            simp only [Act.put, List.getElem_toArray, List.getElem_cons_succ, List.getElem_cons_zero, List.setIfInBounds_toArray, List.set_cons_zero, List.set_cons_succ]
            refine wpAnyH_ready (rs := [11]) (by kernel_rfl) (by simp) ?_
            refine AllReadyH.cons rfl (fun K hK => ?_) (AllReadyH.nil)
            have r0 := HR.out.at_ 0 rfl
            have r1 := HR.out.at_ 1 rfl
            have f0 := HR.out.soft 0
            have f1 := HR.out.soft 1
            go_simp
            refine hK.out _ _ trivial (fun _ => ?_)
            clear hK K
            try simp only [Act.put, List.getElem_toArray, List.getElem_cons_succ, List.getElem_cons_zero, List.setIfInBounds_toArray, List.set_cons_zero, List.set_cons_succ]
            refine wpAnyH_done (by kernel_rfl) ?_ _
            go_wp2
            refine bodyPost_ret (v := .agg #[.int .i64 z1, .int .i64 z2]) (by simp [results, Tryd.results53, go_sem, *]) rfl ?_
            exact ⟨z1, z2, rfl, (HS.out.setNew (p := ⟨w.heap.size, 0, none⟩) hg _).setNew (p := ⟨w.heap.size, 1, none⟩) hg _, (HB.out.setNew (p := ⟨w.heap.size, 0, none⟩) (Nat.le_refl _) _).setNew (p := ⟨w.heap.size, 1, none⟩) (Nat.le_refl _) _⟩
          · skip
            have cl : (v9).cell? ⟨w1.heap.size + 1, k2, none⟩ = some (.int .i64 z2) := HT2.out.at_ k2 HZ2.out
            go_simp
            refine hK.out _ _ trivial (fun _ => ?_)
            clear hK K cl
            try simp only [Act.put, List.getElem_toArray, List.getElem_cons_succ, List.getElem_cons_zero, List.setIfInBounds_toArray, List.set_cons_zero, List.set_cons_succ]
            refine wpAnyH_ready (rs := [4]) (by kernel_rfl) (by simp) ?_
            refine AllReadyH.cons rfl (fun K hK => ?_) (AllReadyH.nil)
            have cl : (v9).cell? ⟨w1.heap.size, k1, none⟩ = some (.int .i64 z1) := HT1.out.at_ k1 HZ1.out
            go_simp
            refine hK.out _ _ trivial (fun _ => ?_)
            clear hK K cl
            try simp only [Act.put, List.getElem_toArray, List.getElem_cons_succ, List.getElem_cons_zero, List.setIfInBounds_toArray, List.set_cons_zero, List.set_cons_succ]
            (refine wpAnyH_take (i := 10) (v := ?hv23) rfl (by kernel_rfl) (by kernel_rfl) (by kernel_rfl) (fun _ _ _ h => h) (Or.inl ⟨by kernel_rfl, ?hy23⟩) hHeld ?hr23; case hy23 => (intro w hSw; (try dsimp only at hSw); go_simp; try with_reducible rfl))
            simp only [Act.put, List.getElem_toArray, List.getElem_cons_succ, List.getElem_cons_zero, List.setIfInBounds_toArray, List.set_cons_zero, List.set_cons_succ]
            refine wpAnyH_ready (rs := [11]) (by kernel_rfl) (by simp) ?_
            refine AllReadyH.cons rfl (fun K hK => ?_) (AllReadyH.nil)
            have r0 := HR.out.at_ 0 rfl
            have r1 := HR.out.at_ 1 rfl
            have f0 := HR.out.soft 0
            have f1 := HR.out.soft 1
            go_simp
            refine hK.out _ _ trivial (fun _ => ?_)
            clear hK K
            try simp only [Act.put, List.getElem_toArray, List.getElem_cons_succ, List.getElem_cons_zero, List.setIfInBounds_toArray, List.set_cons_zero, List.set_cons_succ]
            refine wpAnyH_done (by kernel_rfl) ?_ _
            go_wp2
            refine bodyPost_ret (v := .agg #[.int .i64 z1, .int .i64 z2]) (by simp [results, Tryd.results53, go_sem, *]) rfl ?_
            exact ⟨z1, z2, rfl, (HS.out.setNew (p := ⟨w.heap.size, 0, none⟩) hg _).setNew (p := ⟨w.heap.size, 1, none⟩) hg _, (HB.out.setNew (p := ⟨w.heap.size, 0, none⟩) (Nat.le_refl _) _).setNew (p := ⟨w.heap.size, 1, none⟩) (Nat.le_refl _) _⟩
    · skip
      go_simp
      go_at_call 51
      refine (n_any g b len cap 3 _ HS.out (by omega)).mono ?_
      rintro e v10 ⟨q1, rfl, hq0, hq1, hs, hb⟩
      obtain ⟨k1, z1, rfl, hk1, hz1⟩ := tab3 (a := (-1)) (b := 3) (c := 4) hq0 hq1
      have hp1 : (0 : Int) ≤ (k1 : Int) := Int.natCast_nonneg _
      have hu1 : (k1 : Int) < 3 := by omega
      have HZ1 := Lib.hid hz1
      have HB := Lib.hid (HB.out.trans hb)
      have HR := Lib.hid (Blk.but HR.out hb hgr)
      have HS := Lib.hid hs
      refine hK.out _ _ trivial (fun _ => ?_)
      clear hK K hs hb hq0 hq1 hz1
      try simp only [Act.put, List.getElem_toArray, List.getElem_cons_succ, List.getElem_cons_zero, List.setIfInBounds_toArray, List.set_cons_zero, List.set_cons_succ]
      refine wpAnyH_ready (rs := [0, 5, 7]) (by kernel_rfl) (by simp) ?_
      refine AllReadyH.cons rfl (fun K hK => ?_) (AllReadyH.cons rfl (fun K hK => ?_) (AllReadyH.cons rfl (fun K hK => ?_) (AllReadyH.nil)))
      · skip
        go_simp
        have hbA : But g (v10) (v10.alloc (.cells #[.int .i64 (-1), .int .i64 3, .int .i64 4] 2)) := (But.refl _ _).alloc _
        have hwl : w.heap.size ≤ (v10).heap.size := HB.out.size
        have HB := Lib.hid (HB.out.trans hbA)
        have HR := Lib.hid (Blk.but HR.out hbA hgr)
        have HT1 := Lib.hid (show Blk (v10.alloc (.cells #[.int .i64 (-1), .int .i64 3, .int .i64 4] 2)) (v10.heap.size) 2 #[.int .i64 (-1), .int .i64 3, .int .i64 4] from by have h9 := Blk.new (v10) 2 #[.int .i64 (-1), .int .i64 3, .int .i64 4]; (try simp only [World.size_alloc, World.size_drew] at h9); exact h9)
        have HS := Lib.hid (HS.out.alloc (.cells #[.int .i64 (-1), .int .i64 3, .int .i64 4] 2))
        have hnB1 : v10.heap.size ≠ g := by have h9 := hwl; (try simp only [World.size_alloc, World.size_drew] at h9); omega
        refine hK.out _ _ trivial (fun _ => ?_)
        clear hK K hbA hwl
        try simp only [Act.put, List.getElem_toArray, List.getElem_cons_succ, List.getElem_cons_zero, List.setIfInBounds_toArray, List.set_cons_zero, List.set_cons_succ]
        (refine wpAnyH_take (i := 3) (v := ?hv24) rfl (by kernel_rfl) (by kernel_rfl) (by kernel_rfl) (fun _ _ _ h => h) (Or.inl ⟨by kernel_rfl, ?hy24⟩) hHeld ?hr24; case hy24 => (intro w hSw; (try dsimp only at hSw); go_simp; try with_reducible rfl))
        simp only [Act.put, List.getElem_toArray, List.getElem_cons_succ, List.getElem_cons_zero, List.setIfInBounds_toArray, List.set_cons_zero, List.set_cons_succ]
        refine wpAnyH_ready (rs := [4, 5, 7]) (by kernel_rfl) (by simp) ?_
        refine AllReadyH.cons rfl (fun K hK => ?_) (AllReadyH.cons rfl (fun K hK => ?_) (AllReadyH.cons rfl (fun K hK => ?_) (AllReadyH.nil)))
        · skip
          have cl : (v10.alloc (.cells #[.int .i64 (-1), .int .i64 3, .int .i64 4] 2)).cell? ⟨v10.heap.size, k1, none⟩ = some (.int .i64 z1) := HT1.out.at_ k1 HZ1.out
          go_simp
          refine hK.out _ _ trivial (fun _ => ?_)
          clear hK K cl
          try simp only [Act.put, List.getElem_toArray, List.getElem_cons_succ, List.getElem_cons_zero, List.setIfInBounds_toArray, List.set_cons_zero, List.set_cons_succ]
          refine wpAnyH_ready (rs := [5, 7]) (by kernel_rfl) (by simp) ?_
          refine AllReadyH.cons rfl (fun K hK => ?_) (AllReadyH.cons rfl (fun K hK => ?_) (AllReadyH.nil))
          · skip
            go_simp
            have hbA : But g (v10.alloc (.cells #[.int .i64 (-1), .int .i64 3, .int .i64 4] 2)) ((v10.alloc (.cells #[.int .i64 (-1), .int .i64 3, .int .i64 4] 2)).alloc (.cells #[.int .i64 (-1), .int .i64 7, .int .i64 8] 2)) := (But.refl _ _).alloc _
            have hwl : w.heap.size ≤ (v10.alloc (.cells #[.int .i64 (-1), .int .i64 3, .int .i64 4] 2)).heap.size := HB.out.size
            have HB := Lib.hid (HB.out.trans hbA)
            have HR := Lib.hid (Blk.but HR.out hbA hgr)
            have HT1 := Lib.hid (Blk.but HT1.out hbA (by exact hnB1))
            have HT2 := Lib.hid (show Blk ((v10.alloc (.cells #[.int .i64 (-1), .int .i64 3, .int .i64 4] 2)).alloc (.cells #[.int .i64 (-1), .int .i64 7, .int .i64 8] 2)) (v10.heap.size + 1) 2 #[.int .i64 (-1), .int .i64 7, .int .i64 8] from by have h9 := Blk.new (v10.alloc (.cells #[.int .i64 (-1), .int .i64 3, .int .i64 4] 2)) 2 #[.int .i64 (-1), .int .i64 7, .int .i64 8]; (try simp only [World.size_alloc, World.size_drew] at h9); exact h9)
            have HS := Lib.hid (HS.out.alloc (.cells #[.int .i64 (-1), .int .i64 7, .int .i64 8] 2))
            have hnB2 : v10.heap.size + 1 ≠ g := by have h9 := hwl; (try simp only [World.size_alloc, World.size_drew] at h9); omega
            refine hK.out _ _ trivial (fun _ => ?_)
            clear hK K hbA hwl
            try simp only [Act.put, List.getElem_toArray, List.getElem_cons_succ, List.getElem_cons_zero, List.setIfInBounds_toArray, List.set_cons_zero, List.set_cons_succ]
            refine wpAnyH_ready (rs := [7]) (by kernel_rfl) (by simp) ?_
            refine AllReadyH.cons rfl (fun K hK => ?_) (AllReadyH.nil)
            go_simp
            go_at_call 51
            refine (n_any g b len cap 3 _ HS.out (by omega)).mono ?_
            rintro e v11 ⟨q2, rfl, hq0, hq1, hs, hb⟩
            obtain ⟨k2, z2, rfl, hk2, hz2⟩ := tab3 (a := (-1)) (b := 7) (c := 8) hq0 hq1
            have hp2 : (0 : Int) ≤ (k2 : Int) := Int.natCast_nonneg _
            have hu2 : (k2 : Int) < 3 := by omega
            have HZ2 := Lib.hid hz2
            have HB := Lib.hid (HB.out.trans hb)
            have HR := Lib.hid (Blk.but HR.out hb hgr)
            have HT1 := Lib.hid (Blk.but HT1.out hb (by exact hnB1))
            have HT2 := Lib.hid (Blk.but HT2.out hb (by exact hnB2))
            have HS := Lib.hid hs
            refine hK.out _ _ trivial (fun _ => ?_)
            clear hK K hs hb hq0 hq1 hz2
            try simp only [Act.put, List.getElem_toArray, List.getElem_cons_succ, List.getElem_cons_zero, List.setIfInBounds_toArray, List.set_cons_zero, List.set_cons_succ]
            (refine wpAnyH_take (i := 8) (v := ?hv25) rfl (by kernel_rfl) (by kernel_rfl) (by kernel_rfl) (fun _ _ _ h => h) (Or.inl ⟨by kernel_rfl, ?hy25⟩) hHeld ?hr25; case hy25 => (intro w hSw; (try dsimp only at hSw); go_simp; try with_reducible rfl))
            simp only [Act.put, List.getElem_toArray, List.getElem_cons_succ, List.getElem_cons_zero, List.setIfInBounds_toArray, List.set_cons_zero, List.set_cons_succ]
            refine wpAnyH_ready (rs := [9]) (by kernel_rfl) (by simp) ?_
            refine AllReadyH.cons rfl (fun K hK => ?_) (AllReadyH.nil)
            have cl : (v11).cell? ⟨v10.heap.size + 1, k2, none⟩ = some (.int .i64 z2) := HT2.out.at_ k2 HZ2.out
            go_simp
            refine hK.out _ _ trivial (fun _ => ?_)
            clear hK K cl
            try simp only [Act.put, List.getElem_toArray, List.getElem_cons_succ, List.getElem_cons_zero, List.setIfInBounds_toArray, List.set_cons_zero, List.set_cons_succ]
            (refine wpAnyH_take (i := 10) (v := ?hv26) rfl (by kernel_rfl) (by kernel_rfl) (by kernel_rfl) (fun _ _ _ h => h) (Or.inl ⟨by kernel_rfl, ?hy26⟩) hHeld ?hr26; case hy26 => (intro w hSw; (try dsimp only at hSw); go_simp; try with_reducible rfl))
            simp only [Act.put, List.getElem_toArray, List.getElem_cons_succ, List.getElem_cons_zero, List.setIfInBounds_toArray, List.set_cons_zero, List.set_cons_succ]
            refine wpAnyH_ready (rs := [11]) (by kernel_rfl) (by simp) ?_
            refine AllReadyH.cons rfl (fun K hK => ?_) (AllReadyH.nil)
            have r0 := HR.out.at_ 0 rfl
            have r1 := HR.out.at_ 1 rfl
            have f0 := HR.out.soft 0
            have f1 := HR.out.soft 1
            go_simp
            refine hK.out _ _ trivial (fun _ => ?_)
            clear hK K
            try simp only [Act.put, List.getElem_toArray, List.getElem_cons_succ, List.getElem_cons_zero, List.setIfInBounds_toArray, List.set_cons_zero, List.set_cons_succ]
            refine wpAnyH_done (by kernel_rfl) ?_ _
            go_wp2
            refine bodyPost_ret (v := .agg #[.int .i64 z1, .int .i64 z2]) (by simp [results, Tryd.results53, go_sem, *]) rfl ?_
            exact ⟨z1, z2, rfl, (HS.out.setNew (p := ⟨w.heap.size, 0, none⟩) hg _).setNew (p := ⟨w.heap.size, 1, none⟩) hg _, (HB.out.setNew (p := ⟨w.heap.size, 0, none⟩) (Nat.le_refl _) _).setNew (p := ⟨w.heap.size, 1, none⟩) (Nat.le_refl _) _⟩
          · skip
            go_simp
            go_at_call 51
            refine (n_any g b len cap 3 _ HS.out (by omega)).mono ?_
            rintro e v12 ⟨q2, rfl, hq0, hq1, hs, hb⟩
            obtain ⟨k2, z2, rfl, hk2, hz2⟩ := tab3 (a := (-1)) (b := 7) (c := 8) hq0 hq1
            have hp2 : (0 : Int) ≤ (k2 : Int) := Int.natCast_nonneg _
            have hu2 : (k2 : Int) < 3 := by omega
            have HZ2 := Lib.hid hz2
            have HB := Lib.hid (HB.out.trans hb)
            have HR := Lib.hid (Blk.but HR.out hb hgr)
            have HT1 := Lib.hid (Blk.but HT1.out hb (by exact hnB1))
            have HS := Lib.hid hs
            refine hK.out _ _ trivial (fun _ => ?_)
            clear hK K hs hb hq0 hq1 hz2
            try simp only [Act.put, List.getElem_toArray, List.getElem_cons_succ, List.getElem_cons_zero, List.setIfInBounds_toArray, List.set_cons_zero, List.set_cons_succ]
            refine wpAnyH_ready (rs := [5]) (by kernel_rfl) (by simp) ?_
            refine AllReadyH.cons rfl (fun K hK => ?_) (AllReadyH.nil)
            go_simp
            have hbA : But g (v12) (v12.alloc (.cells #[.int .i64 (-1), .int .i64 7, .int .i64 8] 2)) := (But.refl _ _).alloc _
            have hwl : w.heap.size ≤ (v12).heap.size := HB.out.size
            have HB := Lib.hid (HB.out.trans hbA)
            have HR := Lib.hid (Blk.but HR.out hbA hgr)
            have HT1 := Lib.hid (Blk.but HT1.out hbA (by exact hnB1))
            have HT2 := Lib.hid (show Blk (v12.alloc (.cells #[.int .i64 (-1), .int .i64 7, .int .i64 8] 2)) (v12.heap.size) 2 #[.int .i64 (-1), .int .i64 7, .int .i64 8] from by have h9 := Blk.new (v12) 2 #[.int .i64 (-1), .int .i64 7, .int .i64 8]; (try simp only [World.size_alloc, World.size_drew] at h9); exact h9)
            have HS := Lib.hid (HS.out.alloc (.cells #[.int .i64 (-1), .int .i64 7, .int .i64 8] 2))
            have hnB2 : v12.heap.size ≠ g := by have h9 := hwl; (try simp only [World.size_alloc, World.size_drew] at h9); omega
            refine hK.out _ _ trivial (fun _ => ?_)
            clear hK K hbA hwl
            try simp only [Act.put, List.getElem_toArray, List.getElem_cons_succ, List.getElem_cons_zero, List.setIfInBounds_toArray, List.set_cons_zero, List.set_cons_succ]
            (refine wpAnyH_take (i := 8) (v := ?hv27) rfl (by kernel_rfl) (by kernel_rfl) (by kernel_rfl) (fun _ _ _ h => h) (Or.inl ⟨by kernel_rfl, ?hy27⟩) hHeld ?hr27; case hy27 => (intro w hSw; (try dsimp only at hSw); go_simp; try with_reducible rfl))
            simp only [Act.put, List.getElem_toArray, List.getElem_cons_succ, List.getElem_cons_zero, List.setIfInBounds_toArray, List.set_cons_zero, List.set_cons_succ]
            refine wpAnyH_ready (rs := [9]) (by kernel_rfl) (by simp) ?_
            refine AllReadyH.cons rfl (fun K hK => ?_) (AllReadyH.nil)
            have cl : (v12.alloc (.cells #[.int .i64 (-1), .int .i64 7, .int .i64 8] 2)).cell? ⟨v12.heap.size, k2, none⟩ = some (.int .i64 z2) := HT2.out.at_ k2 HZ2.out
            go_simp
            refine hK.out _ _ trivial (fun _ => ?_)
            clear hK K cl
            try simp only [Act.put, List.getElem_toArray, List.getElem_cons_succ, List.getElem_cons_zero, List.setIfInBounds_toArray, List.set_cons_zero, List.set_cons_succ]
            (refine wpAnyH_take (i := 10) (v := ?hv28) rfl (by kernel_rfl) (by kernel_rfl) (by kernel_rfl) (fun _ _ _ h => h) (Or.inl ⟨by kernel_rfl, ?hy28⟩) hHeld ?hr28; case hy28 => (intro w hSw; (try dsimp only at hSw); go_simp; try with_reducible rfl))
            simp only [Act.put, List.getElem_toArray, List.getElem_cons_succ, List.getElem_cons_zero, List.setIfInBounds_toArray, List.set_cons_zero, List.set_cons_succ]
            refine wpAnyH_ready (rs := [11]) (by kernel_rfl) (by simp) ?_
            refine AllReadyH.cons rfl (fun K hK => ?_) (AllReadyH.nil)
            have r0 := HR.out.at_ 0 rfl
            have r1 := HR.out.at_ 1 rfl
            have f0 := HR.out.soft 0
            have f1 := HR.out.soft 1
            go_simp
            refine hK.out _ _ trivial (fun _ => ?_)
            clear hK K
            try simp only [Act.put, List.getElem_toArray, List.getElem_cons_succ, List.getElem_cons_zero, List.setIfInBounds_toArray, List.set_cons_zero, List.set_cons_succ]
            refine wpAnyH_done (by kernel_rfl) ?_ _
            go_wp2
            refine bodyPost_ret (v := .agg #[.int .i64 z1, .int .i64 z2]) (by simp [results, Tryd.results53, go_sem, *]) rfl ?_
            exact ⟨z1, z2, rfl, (HS.out.setNew (p := ⟨w.heap.size, 0, none⟩) hg _).setNew (p := ⟨w.heap.size, 1, none⟩) hg _, (HB.out.setNew (p := ⟨w.heap.size, 0, none⟩) (Nat.le_refl _) _).setNew (p := ⟨w.heap.size, 1, none⟩) (Nat.le_refl _) _⟩
        · skip
          go_simp
          have hbA : But g (v10.alloc (.cells #[.int .i64 (-1), .int .i64 3, .int .i64 4] 2)) ((v10.alloc (.cells #[.int .i64 (-1), .int .i64 3, .int .i64 4] 2)).alloc (.cells #[.int .i64 (-1), .int .i64 7, .int .i64 8] 2)) := (But.refl _ _).alloc _
          have hwl : w.heap.size ≤ (v10.alloc (.cells #[.int .i64 (-1), .int .i64 3, .int .i64 4] 2)).heap.size := HB.out.size
          have HB := Lib.hid (HB.out.trans hbA)
          have HR := Lib.hid (Blk.but HR.out hbA hgr)
          have HT1 := Lib.hid (Blk.but HT1.out hbA (by exact hnB1))
          have HT2 := Lib.hid (show Blk ((v10.alloc (.cells #[.int .i64 (-1), .int .i64 3, .int .i64 4] 2)).alloc (.cells #[.int .i64 (-1), .int .i64 7, .int .i64 8] 2)) (v10.heap.size + 1) 2 #[.int .i64 (-1), .int .i64 7, .int .i64 8] from by have h9 := Blk.new (v10.alloc (.cells #[.int .i64 (-1), .int .i64 3, .int .i64 4] 2)) 2 #[.int .i64 (-1), .int .i64 7, .int .i64 8]; (try simp only [World.size_alloc, World.size_drew] at h9); exact h9)
          have HS := Lib.hid (HS.out.alloc (.cells #[.int .i64 (-1), .int .i64 7, .int .i64 8] 2))
          have hnB2 : v10.heap.size + 1 ≠ g := by have h9 := hwl; (try simp only [World.size_alloc, World.size_drew] at h9); omega
          refine hK.out _ _ trivial (fun _ => ?_)
          clear hK K hbA hwl
          try simp only [Act.put, List.getElem_toArray, List.getElem_cons_succ, List.getElem_cons_zero, List.setIfInBounds_toArray, List.set_cons_zero, List.set_cons_succ]
          refine wpAnyH_ready (rs := [4, 7]) (by kernel_rfl) (by simp) ?_
          refine AllReadyH.cons rfl (fun K hK => ?_) (AllReadyH.cons rfl (fun K hK => ?_) (AllReadyH.nil))
          · skip
            have cl : ((v10.alloc (.cells #[.int .i64 (-1), .int .i64 3, .int .i64 4] 2)).alloc (.cells #[.int .i64 (-1), .int .i64 7, .int .i64 8] 2)).cell? ⟨v10.heap.size, k1, none⟩ = some (.int .i64 z1) := HT1.out.at_ k1 HZ1.out
            go_simp
            refine hK.out _ _ trivial (fun _ => ?_)
            clear hK K cl
            try simp only [Act.put, List.getElem_toArray, List.getElem_cons_succ, List.getElem_cons_zero, List.setIfInBounds_toArray, List.set_cons_zero, List.set_cons_succ]
            refine wpAnyH_ready (rs := [7]) (by kernel_rfl) (by simp) ?_
            refine AllReadyH.cons rfl (fun K hK => ?_) (AllReadyH.nil)
            go_simp
            go_at_call 51
            refine (n_any g b len cap 3 _ HS.out (by omega)).mono ?_
            rintro e v13 ⟨q2, rfl, hq0, hq1, hs, hb⟩
            obtain ⟨k2, z2, rfl, hk2, hz2⟩ := tab3 (a := (-1)) (b := 7) (c := 8) hq0 hq1
            have hp2 : (0 : Int) ≤ (k2 : Int) := Int.natCast_nonneg _
            have hu2 : (k2 : Int) < 3 := by omega
            have HZ2 := Lib.hid hz2
            have HB := Lib.hid (HB.out.trans hb)
            have HR := Lib.hid (Blk.but HR.out hb hgr)
            have HT1 := Lib.hid (Blk.but HT1.out hb (by exact hnB1))
            have HT2 := Lib.hid (Blk.but HT2.out hb (by exact hnB2))
            have HS := Lib.hid hs
            refine hK.out _ _ trivial (fun _ => ?_)
            clear hK K hs hb hq0 hq1 hz2
            try simp only [Act.put, List.getElem_toArray, List.getElem_cons_succ, List.getElem_cons_zero, List.setIfInBounds_toArray, List.set_cons_zero, List.set_cons_succ]
            (refine wpAnyH_take (i := 8) (v := ?hv29) rfl (by kernel_rfl) (by kernel_rfl) (by kernel_rfl) (fun _ _ _ h => h) (Or.inl ⟨by kernel_rfl, ?hy29⟩) hHeld ?hr29; case hy29 => (intro w hSw; (try dsimp only at hSw); go_simp; try with_reducible rfl))
            simp only [Act.put, List.getElem_toArray, List.getElem_cons_succ, List.getElem_cons_zero, List.setIfInBounds_toArray, List.set_cons_zero, List.set_cons_succ]
            refine wpAnyH_ready (rs := [9]) (by kernel_rfl) (by simp) ?_
            refine AllReadyH.cons rfl (fun K hK => ?_) (AllReadyH.nil)
            have cl : (v13).cell? ⟨v10.heap.size + 1, k2, none⟩ = some (.int .i64 z2) := HT2.out.at_ k2 HZ2.out
            go_simp
            refine hK.out _ _ trivial (fun _ => ?_)
            clear hK K cl
            try simp only [Act.put, List.getElem_toArray, List.getElem_cons_succ, List.getElem_cons_zero, List.setIfInBounds_toArray, List.set_cons_zero, List.set_cons_succ]
            (refine wpAnyH_take (i := 10) (v := ?hv30) rfl (by kernel_rfl) (by kernel_rfl) (by kernel_rfl) (fun _ _ _ h => h) (Or.inl ⟨by kernel_rfl, ?hy30⟩) hHeld ?hr30; case hy30 => (intro w hSw; (try dsimp only at hSw); go_simp; try with_reducible rfl))
            simp only [Act.put, List.getElem_toArray, List.getElem_cons_succ, List.getElem_cons_zero, List.setIfInBounds_toArray, List.set_cons_zero, List.set_cons_succ]
            refine wpAnyH_ready (rs := [11]) (by kernel_rfl) (by simp) ?_
            refine AllReadyH.cons rfl (fun K hK => ?_) (AllReadyH.nil)
            have r0 := HR.out.at_ 0 rfl
            have r1 := HR.out.at_ 1 rfl
            have f0 := HR.out.soft 0
            have f1 := HR.out.soft 1
            go_simp
            refine hK.out _ _ trivial (fun _ => ?_)
            clear hK K
            try simp only [Act.put, List.getElem_toArray, List.getElem_cons_succ, List.getElem_cons_zero, List.setIfInBounds_toArray, List.set_cons_zero, List.set_cons_succ]
            refine wpAnyH_done (by kernel_rfl) ?_ _
            go_wp2
            refine bodyPost_ret (v := .agg #[.int .i64 z1, .int .i64 z2]) (by simp [results, Tryd.results53, go_sem, *]) rfl ?_
            exact ⟨z1, z2, rfl, (HS.out.setNew (p := ⟨w.heap.size, 0, none⟩) hg _).setNew (p := ⟨w.heap.size, 1, none⟩) hg _, (HB.out.setNew (p := ⟨w.heap.size, 0, none⟩) (Nat.le_refl _) _).setNew (p := ⟨w.heap.size, 1, none⟩) (Nat.le_refl _) _⟩
          · skip
            go_simp
            go_at_call 51
            refine (n_any g b len cap 3 _ HS.out (by omega)).mono ?_
            rintro e v14 ⟨q2, rfl, hq0, hq1, hs, hb⟩
            obtain ⟨k2, z2, rfl, hk2, hz2⟩ := tab3 (a := (-1)) (b := 7) (c := 8) hq0 hq1
            have hp2 : (0 : Int) ≤ (k2 : Int) := Int.natCast_nonneg _
            have hu2 : (k2 : Int) < 3 := by omega
            have HZ2 := Lib.hid hz2
            have HB := Lib.hid (HB.out.trans hb)
            have HR := Lib.hid (Blk.but HR.out hb hgr)
            have HT1 := Lib.hid (Blk.but HT1.out hb (by exact hnB1))
            have HT2 := Lib.hid (Blk.but HT2.out hb (by exact hnB2))
            have HS := Lib.hid hs
            refine hK.out _ _ trivial (fun _ => ?_)
            clear hK K hs hb hq0 hq1 hz2
            try simp only [Act.put, List.getElem_toArray, List.getElem_cons_succ, List.getElem_cons_zero, List.setIfInBounds_toArray, List.set_cons_zero, List.set_cons_succ]
            (refine wpAnyH_take (i := 8) (v := ?hv31) rfl (by kernel_rfl) (by kernel_rfl) (by kernel_rfl) (fun _ _ _ h => h) (Or.inl ⟨by kernel_rfl, ?hy31⟩) hHeld ?hr31; case hy31 => (intro w hSw; (try dsimp only at hSw); go_simp; try with_reducible rfl))
            simp only [Act.put, List.getElem_toArray, List.getElem_cons_succ, List.getElem_cons_zero, List.setIfInBounds_toArray, List.set_cons_zero, List.set_cons_succ]
            refine wpAnyH_ready (rs := [4, 9]) (by kernel_rfl) (by simp) ?_
            refine AllReadyH.cons rfl (fun K hK => ?_) (AllReadyH.cons rfl (fun K hK => ?_) (AllReadyH.nil))
            · skip
              have cl : (v14).cell? ⟨v10.heap.size, k1, none⟩ = some (.int .i64 z1) := HT1.out.at_ k1 HZ1.out
              go_simp
              refine hK.out _ _ trivial (fun _ => ?_)
              clear hK K cl
              try simp only [Act.put, List.getElem_toArray, List.getElem_cons_succ, List.getElem_cons_zero, List.setIfInBounds_toArray, List.set_cons_zero, List.set_cons_succ]
              refine wpAnyH_ready (rs := [9]) (by kernel_rfl) (by simp) ?_
              refine AllReadyH.cons rfl (fun K hK => ?_) (AllReadyH.nil)
              have cl : (v14).cell? ⟨v10.heap.size + 1, k2, none⟩ = some (.int .i64 z2) := HT2.out.at_ k2 HZ2.out
              go_simp
              refine hK.out _ _ trivial (fun _ => ?_)
              clear hK K cl
              try simp only [Act.put, List.getElem_toArray, List.getElem_cons_succ, List.getElem_cons_zero, List.setIfInBounds_toArray, List.set_cons_zero, List.set_cons_succ]
              (refine wpAnyH_take (i := 10) (v := ?hv32) rfl (by kernel_rfl) (by kernel_rfl) (by kernel_rfl) (fun _ _ _ h => h) (Or.inl ⟨by kernel_rfl, ?hy32⟩) hHeld ?hr32; case hy32 => (intro w hSw; (try dsimp only at hSw); go_simp; try with_reducible rfl))
              simp only [Act.put, List.getElem_toArray, List.getElem_cons_succ, List.getElem_cons_zero, List.setIfInBounds_toArray, List.set_cons_zero, List.set_cons_succ]
              refine wpAnyH_ready (rs := [11]) (by kernel_rfl) (by simp) ?_
              refine AllReadyH.cons rfl (fun K hK => ?_) (AllReadyH.nil)
              have r0 := HR.out.at_ 0 rfl
              have r1 := HR.out.at_ 1 rfl
              have f0 := HR.out.soft 0
              have f1 := HR.out.soft 1
              go_simp
              refine hK.out _ _ trivial (fun _ => ?_)
              clear hK K
              try simp only [Act.put, List.getElem_toArray, List.getElem_cons_succ, List.getElem_cons_zero, List.setIfInBounds_toArray, List.set_cons_zero, List.set_cons_succ]
              refine wpAnyH_done (by kernel_rfl) ?_ _
              go_wp2
              refine bodyPost_ret (v := .agg #[.int .i64 z1, .int .i64 z2]) (by simp [results, Tryd.results53, go_sem, *]) rfl ?_
              exact ⟨z1, z2, rfl, (HS.out.setNew (p := ⟨w.heap.size, 0, none⟩) hg _).setNew (p := ⟨w.heap.size, 1, none⟩) hg _, (HB.out.setNew (p := ⟨w.heap.size, 0, none⟩) (Nat.le_refl _) _).setNew (p := ⟨w.heap.size, 1, none⟩) (Nat.le_refl _) _⟩
            · skip
              have cl : (v14).cell? ⟨v10.heap.size + 1, k2, none⟩ = some (.int .i64 z2) := HT2.out.at_ k2 HZ2.out
              go_simp
              refine hK.out _ _ trivial (fun _ => ?_)
              clear hK K cl
              try simp only [Act.put, List.getElem_toArray, List.getElem_cons_succ, List.getElem_cons_zero, List.setIfInBounds_toArray, List.set_cons_zero, List.set_cons_succ]
              refine wpAnyH_ready (rs := [4]) (by kernel_rfl) (by simp) ?_
              refine AllReadyH.cons rfl (fun K hK => ?_) (AllReadyH.nil)
              have cl : (v14).cell? ⟨v10.heap.size, k1, none⟩ = some (.int .i64 z1) := HT1.out.at_ k1 HZ1.out
              go_simp
              refine hK.out _ _ trivial (fun _ => ?_)
              clear hK K cl
              try simp only [Act.put, List.getElem_toArray, List.getElem_cons_succ, List.getElem_cons_zero, List.setIfInBounds_toArray, List.set_cons_zero, List.set_cons_succ]
              (refine wpAnyH_take (i := 10) (v := ?hv33) rfl (by kernel_rfl) (by kernel_rfl) (by kernel_rfl) (fun _ _ _ h => h) (Or.inl ⟨by kernel_rfl, ?hy33⟩) hHeld ?hr33; case hy33 => (intro w hSw; (try dsimp only at hSw); go_simp; try with_reducible rfl))
              simp only [Act.put, List.getElem_toArray, List.getElem_cons_succ, List.getElem_cons_zero, List.setIfInBounds_toArray, List.set_cons_zero, List.set_cons_succ]
              refine wpAnyH_ready (rs := [11]) (by kernel_rfl) (by simp) ?_
              refine AllReadyH.cons rfl (fun K hK => ?_) (AllReadyH.nil)
              have r0 := HR.out.at_ 0 rfl
              have r1 := HR.out.at_ 1 rfl
              have f0 := HR.out.soft 0
              have f1 := HR.out.soft 1
              go_simp
              refine hK.out _ _ trivial (fun _ => ?_)
              clear hK K
              try simp only [Act.put, List.getElem_toArray, List.getElem_cons_succ, List.getElem_cons_zero, List.setIfInBounds_toArray, List.set_cons_zero, List.set_cons_succ]
              refine wpAnyH_done (by kernel_rfl) ?_ _
              go_wp2
              refine bodyPost_ret (v := .agg #[.int .i64 z1, .int .i64 z2]) (by simp [results, Tryd.results53, go_sem, *]) rfl ?_
              exact ⟨z1, z2, rfl, (HS.out.setNew (p := ⟨w.heap.size, 0, none⟩) hg _).setNew (p := ⟨w.heap.size, 1, none⟩) hg _, (HB.out.setNew (p := ⟨w.heap.size, 0, none⟩) (Nat.le_refl _) _).setNew (p := ⟨w.heap.size, 1, none⟩) (Nat.le_refl _) _⟩
        · skip
          go_simp
          go_at_call 51
          refine (n_any g b len cap 3 _ HS.out (by omega)).mono ?_
          rintro e v15 ⟨q2, rfl, hq0, hq1, hs, hb⟩
          obtain ⟨k2, z2, rfl, hk2, hz2⟩ := tab3 (a := (-1)) (b := 7) (c := 8) hq0 hq1
          have hp2 : (0 : Int) ≤ (k2 : Int) := Int.natCast_nonneg _
          have hu2 : (k2 : Int) < 3 := by omega
          have HZ2 := Lib.hid hz2
          have HB := Lib.hid (HB.out.trans hb)
          have HR := Lib.hid (Blk.but HR.out hb hgr)
          have HT1 := Lib.hid (Blk.but HT1.out hb (by exact hnB1))
          have HS := Lib.hid hs
          refine hK.out _ _ trivial (fun _ => ?_)
          clear hK K hs hb hq0 hq1 hz2
          try simp only [Act.put, List.getElem_toArray, List.getElem_cons_succ, List.getElem_cons_zero, List.setIfInBounds_toArray, List.set_cons_zero, List.set_cons_succ]
          refine wpAnyH_ready (rs := [4, 5]) (by kernel_rfl) (by simp) ?_
          refine AllReadyH.cons rfl (fun K hK => ?_) (AllReadyH.cons rfl (fun K hK => ?_) (AllReadyH.nil))
          · skip
            have cl : (v15).cell? ⟨v10.heap.size, k1, none⟩ = some (.int .i64 z1) := HT1.out.at_ k1 HZ1.out
            go_simp
            refine hK.out _ _ trivial (fun _ => ?_)
            clear hK K cl
            try simp only [Act.put, List.getElem_toArray, List.getElem_cons_succ, List.getElem_cons_zero, List.setIfInBounds_toArray, List.set_cons_zero, List.set_cons_succ]
            refine wpAnyH_ready (rs := [5]) (by kernel_rfl) (by simp) ?_
            refine AllReadyH.cons rfl (fun K hK => ?_) (AllReadyH.nil)
            go_simp
            have hbA : But g (v15) (v15.alloc (.cells #[.int .i64 (-1), .int .i64 7, .int .i64 8] 2)) := (But.refl _ _).alloc _
            have hwl : w.heap.size ≤ (v15).heap.size := HB.out.size
            have HB := Lib.hid (HB.out.trans hbA)
            have HR := Lib.hid (Blk.but HR.out hbA hgr)
            have HT1 := Lib.hid (Blk.but HT1.out hbA (by exact hnB1))
            have HT2 := Lib.hid (show Blk (v15.alloc (.cells #[.int .i64 (-1), .int .i64 7, .int .i64 8] 2)) (v15.heap.size) 2 #[.int .i64 (-1), .int .i64 7, .int .i64 8] from by have h9 := Blk.new (v15) 2 #[.int .i64 (-1), .int .i64 7, .int .i64 8]; (try simp only [World.size_alloc, World.size_drew] at h9); exact h9)
            have HS := Lib.hid (HS.out.alloc (.cells #[.int .i64 (-1), .int .i64 7, .int .i64 8] 2))
            have hnB2 : v15.heap.size ≠ g := by have h9 := hwl; (try simp only [World.size_alloc, World.size_drew] at h9); omega
            refine hK.out _ _ trivial (fun _ => ?_)
            clear hK K hbA hwl
            try simp only [Act.put, List.getElem_toArray, List.getElem_cons_succ, List.getElem_cons_zero, List.setIfInBounds_toArray, List.set_cons_zero, List.set_cons_succ]
            (refine wpAnyH_take (i := 8) (v := ?hv34) rfl (by kernel_rfl) (by kernel_rfl) (by kernel_rfl) (fun _ _ _ h => h) (Or.inl ⟨by kernel_rfl, ?hy34⟩) hHeld ?hr34; case hy34 => (intro w hSw; (try dsimp only at hSw); go_simp; try with_reducible rfl))
            simp only [Act.put, List.getElem_toArray, List.getElem_cons_succ, List.getElem_cons_zero, List.setIfInBounds_toArray, List.set_cons_zero, List.set_cons_succ]
            refine wpAnyH_ready (rs := [9]) (by kernel_rfl) (by simp) ?_
            refine AllReadyH.cons rfl (fun K hK => ?_) (AllReadyH.nil)
            have cl : (v15.alloc (.cells #[.int .i64 (-1), .int .i64 7, .int .i64 8] 2)).cell? ⟨v15.heap.size, k2, none⟩ = some (.int .i64 z2) := HT2.out.at_ k2 HZ2.out
            go_simp
            refine hK.out _ _ trivial (fun _ => ?_)
            clear hK K cl
            try simp only [Act.put, List.getElem_toArray, List.getElem_cons_succ, List.getElem_cons_zero, List.setIfInBounds_toArray, List.set_cons_zero, List.set_cons_succ]
            (refine wpAnyH_take (i := 10) (v := ?hv35) rfl (by kernel_rfl) (by kernel_rfl) (by kernel_rfl) (fun _ _ _ h => h) (Or.inl ⟨by kernel_rfl, ?hy35⟩) hHeld ?hr35; case hy35 => (intro w hSw; (try dsimp only at hSw); go_simp; try with_reducible rfl))
            simp only [Act.put, List.getElem_toArray, List.getElem_cons_succ, List.getElem_cons_zero, List.setIfInBounds_toArray, List.set_cons_zero, List.set_cons_succ]
            refine wpAnyH_ready (rs := [11]) (by kernel_rfl) (by simp) ?_
            refine AllReadyH.cons rfl (fun K hK => ?_) (AllReadyH.nil)
            have r0 := HR.out.at_ 0 rfl
            have r1 := HR.out.at_ 1 rfl
            have f0 := HR.out.soft 0
            have f1 := HR.out.soft 1
            go_simp
            refine hK.out _ _ trivial (fun _ => ?_)
            clear hK K
            try simp only [Act.put, List.getElem_toArray, List.getElem_cons_succ, List.getElem_cons_zero, List.setIfInBounds_toArray, List.set_cons_zero, List.set_cons_succ]
            refine wpAnyH_done (by kernel_rfl) ?_ _
            go_wp2
            refine bodyPost_ret (v := .agg #[.int .i64 z1, .int .i64 z2]) (by simp [results, Tryd.results53, go_sem, *]) rfl ?_
            exact ⟨z1, z2, rfl, (HS.out.setNew (p := ⟨w.heap.size, 0, none⟩) hg _).setNew (p := ⟨w.heap.size, 1, none⟩) hg _, (HB.out.setNew (p := ⟨w.heap.size, 0, none⟩) (Nat.le_refl _) _).setNew (p := ⟨w.heap.size, 1, none⟩) (Nat.le_refl _) _⟩
          · skip
            go_simp
            have hbA : But g (v15) (v15.alloc (.cells #[.int .i64 (-1), .int .i64 7, .int .i64 8] 2)) := (But.refl _ _).alloc _
            have hwl : w.heap.size ≤ (v15).heap.size := HB.out.size
            have HB := Lib.hid (HB.out.trans hbA)
            have HR := Lib.hid (Blk.but HR.out hbA hgr)
            have HT1 := Lib.hid (Blk.but HT1.out hbA (by exact hnB1))
            have HT2 := Lib.hid (show Blk (v15.alloc (.cells #[.int .i64 (-1), .int .i64 7, .int .i64 8] 2)) (v15.heap.size) 2 #[.int .i64 (-1), .int .i64 7, .int .i64 8] from by have h9 := Blk.new (v15) 2 #[.int .i64 (-1), .int .i64 7, .int .i64 8]; (try simp only [World.size_alloc, World.size_drew] at h9); exact h9)
            have HS := Lib.hid (HS.out.alloc (.cells #[.int .i64 (-1), .int .i64 7, .int .i64 8] 2))
            have hnB2 : v15.heap.size ≠ g := by have h9 := hwl; (try simp only [World.size_alloc, World.size_drew] at h9); omega
            refine hK.out _ _ trivial (fun _ => ?_)
            clear hK K hbA hwl
            try simp only [Act.put, List.getElem_toArray, List.getElem_cons_succ, List.getElem_cons_zero, List.setIfInBounds_toArray, List.set_cons_zero, List.set_cons_succ]
            (refine wpAnyH_take (i := 8) (v := ?hv36) rfl (by kernel_rfl) (by kernel_rfl) (by kernel_rfl) (fun _ _ _ h => h) (Or.inl ⟨by kernel_rfl, ?hy36⟩) hHeld ?hr36; case hy36 => (intro w hSw; (try dsimp only at hSw); go_simp; try with_reducible rfl))
            simp only [Act.put, List.getElem_toArray, List.getElem_cons_succ, List.getElem_cons_zero, List.setIfInBounds_toArray, List.set_cons_zero, List.set_cons_succ]
            refine wpAnyH_ready (rs := [4, 9]) (by kernel_rfl) (by simp) ?_
            refine AllReadyH.cons rfl (fun K hK => ?_) (AllReadyH.cons rfl (fun K hK => ?_) (AllReadyH.nil))
            · skip
              have cl : (v15.alloc (.cells #[.int .i64 (-1), .int .i64 7, .int .i64 8] 2)).cell? ⟨v10.heap.size, k1, none⟩ = some (.int .i64 z1) := HT1.out.at_ k1 HZ1.out
              go_simp
              refine hK.out _ _ trivial (fun _ => ?_)
              clear hK K cl
              try simp only [Act.put, List.getElem_toArray, List.getElem_cons_succ, List.getElem_cons_zero, List.setIfInBounds_toArray, List.set_cons_zero, List.set_cons_succ]
              refine wpAnyH_ready (rs := [9]) (by kernel_rfl) (by simp) ?_
              refine AllReadyH.cons rfl (fun K hK => ?_) (AllReadyH.nil)
              have cl : (v15.alloc (.cells #[.int .i64 (-1), .int .i64 7, .int .i64 8] 2)).cell? ⟨v15.heap.size, k2, none⟩ = some (.int .i64 z2) := HT2.out.at_ k2 HZ2.out
              go_simp
              refine hK.out _ _ trivial (fun _ => ?_)
              clear hK K cl
              try simp only [Act.put, List.getElem_toArray, List.getElem_cons_succ, List.getElem_cons_zero, List.setIfInBounds_toArray, List.set_cons_zero, List.set_cons_succ]
              (refine wpAnyH_take (i := 10) (v := ?hv37) rfl (by kernel_rfl) (by kernel_rfl) (by kernel_rfl) (fun _ _ _ h => h) (Or.inl ⟨by kernel_rfl, ?hy37⟩) hHeld ?hr37; case hy37 => (intro w hSw; (try dsimp only at hSw); go_simp; try with_reducible rfl))
              simp only [Act.put, List.getElem_toArray, List.getElem_cons_succ, List.getElem_cons_zero, List.setIfInBounds_toArray, List.set_cons_zero, List.set_cons_succ]
              refine wpAnyH_ready (rs := [11]) (by kernel_rfl) (by simp) ?_
              refine AllReadyH.cons rfl (fun K hK => ?_) (AllReadyH.nil)
              have r0 := HR.out.at_ 0 rfl
              have r1 := HR.out.at_ 1 rfl
              have f0 := HR.out.soft 0
              have f1 := HR.out.soft 1
              go_simp
              refine hK.out _ _ trivial (fun _ => ?_)
              clear hK K
              try simp only [Act.put, List.getElem_toArray, List.getElem_cons_succ, List.getElem_cons_zero, List.setIfInBounds_toArray, List.set_cons_zero, List.set_cons_succ]
              refine wpAnyH_done (by kernel_rfl) ?_ _
              go_wp2
              refine bodyPost_ret (v := .agg #[.int .i64 z1, .int .i64 z2]) (by simp [results, Tryd.results53, go_sem, *]) rfl ?_
              exact ⟨z1, z2, rfl, (HS.out.setNew (p := ⟨w.heap.size, 0, none⟩) hg _).setNew (p := ⟨w.heap.size, 1, none⟩) hg _, (HB.out.setNew (p := ⟨w.heap.size, 0, none⟩) (Nat.le_refl _) _).setNew (p := ⟨w.heap.size, 1, none⟩) (Nat.le_refl _) _⟩
            · skip
              have cl : (v15.alloc (.cells #[.int .i64 (-1), .int .i64 7, .int .i64 8] 2)).cell? ⟨v15.heap.size, k2, none⟩ = some (.int .i64 z2) := HT2.out.at_ k2 HZ2.out
              go_simp
              refine hK.out _ _ trivial (fun _ => ?_)
              clear hK K cl
              try simp only [Act.put, List.getElem_toArray, List.getElem_cons_succ, List.getElem_cons_zero, List.setIfInBounds_toArray, List.set_cons_zero, List.set_cons_succ]
              refine wpAnyH_ready (rs := [4]) (by kernel_rfl) (by simp) ?_
              refine AllReadyH.cons rfl (fun K hK => ?_) (AllReadyH.nil)
              have cl : (v15.alloc (.cells #[.int .i64 (-1), .int .i64 7, .int .i64 8] 2)).cell? ⟨v10.heap.size, k1, none⟩ = some (.int .i64 z1) := HT1.out.at_ k1 HZ1.out
              go_simp
              refine hK.out _ _ trivial (fun _ => ?_)
              clear hK K cl
              try simp only [Act.put, List.getElem_toArray, List.getElem_cons_succ, List.getElem_cons_zero, List.setIfInBounds_toArray, List.set_cons_zero, List.set_cons_succ]
              (refine wpAnyH_take (i := 10) (v := ?hv38) rfl (by kernel_rfl) (by kernel_rfl) (by kernel_rfl) (fun _ _ _ h => h) (Or.inl ⟨by kernel_rfl, ?hy38⟩) hHeld ?hr38; case hy38 => (intro w hSw; (try dsimp only at hSw); go_simp; try with_reducible rfl))
              simp only [Act.put, List.getElem_toArray, List.getElem_cons_succ, List.getElem_cons_zero, List.setIfInBounds_toArray, List.set_cons_zero, List.set_cons_succ]
              refine wpAnyH_ready (rs := [11]) (by kernel_rfl) (by simp) ?_
              refine AllReadyH.cons rfl (fun K hK => ?_) (AllReadyH.nil)
              have r0 := HR.out.at_ 0 rfl
              have r1 := HR.out.at_ 1 rfl
              have f0 := HR.out.soft 0
              have f1 := HR.out.soft 1
              go_simp
              refine hK.out _ _ trivial (fun _ => ?_)
              clear hK K
              try simp only [Act.put, List.getElem_toArray, List.getElem_cons_succ, List.getElem_cons_zero, List.setIfInBounds_toArray, List.set_cons_zero, List.set_cons_succ]
              refine wpAnyH_done (by kernel_rfl) ?_ _
              go_wp2
              refine bodyPost_ret (v := .agg #[.int .i64 z1, .int .i64 z2]) (by simp [results, Tryd.results53, go_sem, *]) rfl ?_
              exact ⟨z1, z2, rfl, (HS.out.setNew (p := ⟨w.heap.size, 0, none⟩) hg _).setNew (p := ⟨w.heap.size, 1, none⟩) hg _, (HB.out.setNew (p := ⟨w.heap.size, 0, none⟩) (Nat.le_refl _) _).setNew (p := ⟨w.heap.size, 1, none⟩) (Nat.le_refl _) _⟩
      · skip
        go_simp
        have hbA : But g (v10) (v10.alloc (.cells #[.int .i64 (-1), .int .i64 7, .int .i64 8] 2)) := (But.refl _ _).alloc _
        have hwl : w.heap.size ≤ (v10).heap.size := HB.out.size
        have HB := Lib.hid (HB.out.trans hbA)
        have HR := Lib.hid (Blk.but HR.out hbA hgr)
        have HT2 := Lib.hid (show Blk (v10.alloc (.cells #[.int .i64 (-1), .int .i64 7, .int .i64 8] 2)) (v10.heap.size) 2 #[.int .i64 (-1), .int .i64 7, .int .i64 8] from by have h9 := Blk.new (v10) 2 #[.int .i64 (-1), .int .i64 7, .int .i64 8]; (try simp only [World.size_alloc, World.size_drew] at h9); exact h9)
        have HS := Lib.hid (HS.out.alloc (.cells #[.int .i64 (-1), .int .i64 7, .int .i64 8] 2))
        have hnB2 : v10.heap.size ≠ g := by have h9 := hwl; (try simp only [World.size_alloc, World.size_drew] at h9); omega
        refine hK.out _ _ trivial (fun _ => ?_)
        clear hK K hbA hwl
        try simp only [Act.put, List.getElem_toArray, List.getElem_cons_succ, List.getElem_cons_zero, List.setIfInBounds_toArray, List.set_cons_zero, List.set_cons_succ]
        refine wpAnyH_ready (rs := [0, 7]) (by kernel_rfl) (by simp) ?_
        refine AllReadyH.cons rfl (fun K hK => ?_) (AllReadyH.cons rfl (fun K hK => ?_) (AllReadyH.nil))
        · skip
          go_simp
          have hbA : But g (v10.alloc (.cells #[.int .i64 (-1), .int .i64 7, .int .i64 8] 2)) ((v10.alloc (.cells #[.int .i64 (-1), .int .i64 7, .int .i64 8] 2)).alloc (.cells #[.int .i64 (-1), .int .i64 3, .int .i64 4] 2)) := (But.refl _ _).alloc _
          have hwl : w.heap.size ≤ (v10.alloc (.cells #[.int .i64 (-1), .int .i64 7, .int .i64 8] 2)).heap.size := HB.out.size
          have HB := Lib.hid (HB.out.trans hbA)
          have HR := Lib.hid (Blk.but HR.out hbA hgr)
          have HT2 := Lib.hid (Blk.but HT2.out hbA (by exact hnB2))
          have HT1 := Lib.hid (show Blk ((v10.alloc (.cells #[.int .i64 (-1), .int .i64 7, .int .i64 8] 2)).alloc (.cells #[.int .i64 (-1), .int .i64 3, .int .i64 4] 2)) (v10.heap.size + 1) 2 #[.int .i64 (-1), .int .i64 3, .int .i64 4] from by have h9 := Blk.new (v10.alloc (.cells #[.int .i64 (-1), .int .i64 7, .int .i64 8] 2)) 2 #[.int .i64 (-1), .int .i64 3, .int .i64 4]; (try simp only [World.size_alloc, World.size_drew] at h9); exact h9)
          have HS := Lib.hid (HS.out.alloc (.cells #[.int .i64 (-1), .int .i64 3, .int .i64 4] 2))
          have hnB1 : v10.heap.size + 1 ≠ g := by have h9 := hwl; (try simp only [World.size_alloc, World.size_drew] at h9); omega
          refine hK.out _ _ trivial (fun _ => ?_)
          clear hK K hbA hwl
          try simp only [Act.put, List.getElem_toArray, List.getElem_cons_succ, List.getElem_cons_zero, List.setIfInBounds_toArray, List.set_cons_zero, List.set_cons_succ]
          (refine wpAnyH_take (i := 3) (v := ?hv39) rfl (by kernel_rfl) (by kernel_rfl) (by kernel_rfl) (fun _ _ _ h => h) (Or.inl ⟨by kernel_rfl, ?hy39⟩) hHeld ?hr39; case hy39 => (intro w hSw; (try dsimp only at hSw); go_simp; try with_reducible rfl))
          simp only [Act.put, List.getElem_toArray, List.getElem_cons_succ, List.getElem_cons_zero, List.setIfInBounds_toArray, List.set_cons_zero, List.set_cons_succ]
          refine wpAnyH_ready (rs := [4, 7]) (by kernel_rfl) (by simp) ?_
          refine AllReadyH.cons rfl (fun K hK => ?_) (AllReadyH.cons rfl (fun K hK => ?_) (AllReadyH.nil))
          · skip
            have cl : ((v10.alloc (.cells #[.int .i64 (-1), .int .i64 7, .int .i64 8] 2)).alloc (.cells #[.int .i64 (-1), .int .i64 3, .int .i64 4] 2)).cell? ⟨v10.heap.size + 1, k1, none⟩ = some (.int .i64 z1) := HT1.out.at_ k1 HZ1.out
            go_simp
            refine hK.out _ _ trivial (fun _ => ?_)
            clear hK K cl
            try simp only [Act.put, List.getElem_toArray, List.getElem_cons_succ, List.getElem_cons_zero, List.setIfInBounds_toArray, List.set_cons_zero, List.set_cons_succ]
            refine wpAnyH_ready (rs := [7]) (by kernel_rfl) (by simp) ?_
            refine AllReadyH.cons rfl (fun K hK => ?_) (AllReadyH.nil)
            go_simp
            go_at_call 51
            refine (n_any g b len cap 3 _ HS.out (by omega)).mono ?_
            rintro e v16 ⟨q2, rfl, hq0, hq1, hs, hb⟩
            obtain ⟨k2, z2, rfl, hk2, hz2⟩ := tab3 (a := (-1)) (b := 7) (c := 8) hq0 hq1
            have hp2 : (0 : Int) ≤ (k2 : Int) := Int.natCast_nonneg _
            have hu2 : (k2 : Int) < 3 := by omega
            have HZ2 := Lib.hid hz2
            have HB := Lib.hid (HB.out.trans hb)
            have HR := Lib.hid (Blk.but HR.out hb hgr)
            have HT1 := Lib.hid (Blk.but HT1.out hb (by exact hnB1))
            have HT2 := Lib.hid (Blk.but HT2.out hb (by exact hnB2))
            have HS := Lib.hid hs
            refine hK.out _ _ trivial (fun _ => ?_)
            clear hK K hs hb hq0 hq1 hz2
            try simp only [Act.put, List.getElem_toArray, List.getElem_cons_succ, List.getElem_cons_zero, List.setIfInBounds_toArray, List.set_cons_zero, List.set_cons_succ]
            (refine wpAnyH_take (i := 8) (v := ?hv40) rfl (by kernel_rfl) (by kernel_rfl) (by kernel_rfl) (fun _ _ _ h => h) (Or.inl ⟨by kernel_rfl, ?hy40⟩) hHeld ?hr40; case hy40 => (intro w hSw; (try dsimp only at hSw); go_simp; try with_reducible rfl))
            simp only [Act.put, List.getElem_toArray, List.getElem_cons_succ, List.getElem_cons_zero, List.setIfInBounds_toArray, List.set_cons_zero, List.set_cons_succ]
            refine wpAnyH_ready (rs := [9]) (by kernel_rfl) (by simp) ?_
            refine AllReadyH.cons rfl (fun K hK => ?_) (AllReadyH.nil)
            have cl : (v16).cell? ⟨v10.heap.size, k2, none⟩ = some (.int .i64 z2) := HT2.out.at_ k2 HZ2.out
            go_simp
            refine hK.out _ _ trivial (fun _ => ?_)
            clear hK K cl
            try simp only [Act.put, List.getElem_toArray, List.getElem_cons_succ, List.getElem_cons_zero, List.setIfInBounds_toArray, List.set_cons_zero, List.set_cons_succ]
            (refine wpAnyH_take (i := 10) (v := ?hv41) rfl (by kernel_rfl) (by kernel_rfl) (by kernel_rfl) (fun _ _ _ h => h) (Or.inl ⟨by kernel_rfl, ?hy41⟩) hHeld ?hr41; case hy41 => (intro w hSw; (try dsimp only at hSw); go_simp; try with_reducible rfl))
            simp only [Act.put, List.getElem_toArray, List.getElem_cons_succ, List.getElem_cons_zero, List.setIfInBounds_toArray, List.set_cons_zero, List.set_cons_succ]
            refine wpAnyH_ready (rs := [11]) (by kernel_rfl) (by simp) ?_
            refine AllReadyH.cons rfl (fun K hK => ?_) (AllReadyH.nil)
            have r0 := HR.out.at_ 0 rfl
            have r1 := HR.out.at_ 1 rfl
            have f0 := HR.out.soft 0
            have f1 := HR.out.soft 1
            go_simp
            refine hK.out _ _ trivial (fun _ => ?_)
            clear hK K
            try simp only [Act.put, List.getElem_toArray, List.getElem_cons_succ, List.getElem_cons_zero, List.setIfInBounds_toArray, List.set_cons_zero, List.set_cons_succ]
            refine wpAnyH_done (by kernel_rfl) ?_ _
            go_wp2
            refine bodyPost_ret (v := .agg #[.int .i64 z1, .int .i64 z2]) (by simp [results, Tryd.results53, go_sem, *]) rfl ?_
            exact ⟨z1, z2, rfl, (HS.out.setNew (p := ⟨w.heap.size, 0, none⟩) hg _).setNew (p := ⟨w.heap.size, 1, none⟩) hg _, (HB.out.setNew (p := ⟨w.heap.size, 0, none⟩) (Nat.le_refl _) _).setNew (p := ⟨w.heap.size, 1, none⟩) (Nat.le_refl _) _⟩
          · skip
            go_simp
            go_at_call 51
            refine (n_any g b len cap 3 _ HS.out (by omega)).mono ?_
            rintro e v17 ⟨q2, rfl, hq0, hq1, hs, hb⟩
            obtain ⟨k2, z2, rfl, hk2, hz2⟩ := tab3 (a := (-1)) (b := 7) (c := 8) hq0 hq1
            have hp2 : (0 : Int) ≤ (k2 : Int) := Int.natCast_nonneg _
            have hu2 : (k2 : Int) < 3 := by omega
            have HZ2 := Lib.hid hz2
            have HB := Lib.hid (HB.out.trans hb)
            have HR := Lib.hid (Blk.but HR.out hb hgr)
            have HT1 := Lib.hid (Blk.but HT1.out hb (by exact hnB1))
            have HT2 := Lib.hid (Blk.but HT2.out hb (by exact hnB2))
            have HS := Lib.hid hs
            refine hK.out _ _ trivial (fun _ => ?_)
            clear hK K hs hb hq0 hq1 hz2
            try simp only [Act.put, List.getElem_toArray, List.getElem_cons_succ, List.getElem_cons_zero, List.setIfInBounds_toArray, List.set_cons_zero, List.set_cons_succ]
            (refine wpAnyH_take (i := 8) (v := ?hv42) rfl (by kernel_rfl) (by kernel_rfl) (by kernel_rfl) (fun _ _ _ h => h) (Or.inl ⟨by kernel_rfl, ?hy42⟩) hHeld ?hr42; case hy42 => (intro w hSw; (try dsimp only at hSw); go_simp; try with_reducible rfl))
            simp only [Act.put, List.getElem_toArray, List.getElem_cons_succ, List.getElem_cons_zero, List.setIfInBounds_toArray, List.set_cons_zero, List.set_cons_succ]
            refine wpAnyH_ready (rs := [4, 9]) (by kernel_rfl) (by simp) ?_
            refine AllReadyH.cons rfl (fun K hK => ?_) (AllReadyH.cons rfl (fun K hK => ?_) (AllReadyH.nil))
            · skip
              have cl : (v17).cell? ⟨v10.heap.size + 1, k1, none⟩ = some (.int .i64 z1) := HT1.out.at_ k1 HZ1.out
              go_simp
              refine hK.out _ _ trivial (fun _ => ?_)
              clear hK K cl
              try simp only [Act.put, List.getElem_toArray, List.getElem_cons_succ, List.getElem_cons_zero, List.setIfInBounds_toArray, List.set_cons_zero, List.set_cons_succ]
              refine wpAnyH_ready (rs := [9]) (by kernel_rfl) (by simp) ?_
              refine AllReadyH.cons rfl (fun K hK => ?_) (AllReadyH.nil)
              have cl : (v17).cell? ⟨v10.heap.size, k2, none⟩ = some (.int .i64 z2) := HT2.out.at_ k2 HZ2.out
              go_simp
              refine hK.out _ _ trivial (fun _ => ?_)
              clear hK K cl
              try simp only [Act.put, List.getElem_toArray, List.getElem_cons_succ, List.getElem_cons_zero, List.setIfInBounds_toArray, List.set_cons_zero, List.set_cons_succ]
              (refine wpAnyH_take (i := 10) (v := ?hv43) rfl (by kernel_rfl) (by kernel_rfl) (by kernel_rfl) (fun _ _ _ h => h) (Or.inl ⟨by kernel_rfl, ?hy43⟩) hHeld ?hr43; case hy43 => (intro w hSw; (try dsimp only at hSw); go_simp; try with_reducible rfl))
              simp only [Act.put, List.getElem_toArray, List.getElem_cons_succ, List.getElem_cons_zero, List.setIfInBounds_toArray, List.set_cons_zero, List.set_cons_succ]
              refine wpAnyH_ready (rs := [11]) (by kernel_rfl) (by simp) ?_
              refine AllReadyH.cons rfl (fun K hK => ?_) (AllReadyH.nil)
              have r0 := HR.out.at_ 0 rfl
              have r1 := HR.out.at_ 1 rfl
              have f0 := HR.out.soft 0
              have f1 := HR.out.soft 1
              go_simp
              refine hK.out _ _ trivial (fun _ => ?_)
              clear hK K
              try simp only [Act.put, List.getElem_toArray, List.getElem_cons_succ, List.getElem_cons_zero, List.setIfInBounds_toArray, List.set_cons_zero, List.set_cons_succ]
              refine wpAnyH_done (by kernel_rfl) ?_ _
              go_wp2
              refine bodyPost_ret (v := .agg #[.int .i64 z1, .int .i64 z2]) (by simp [results, Tryd.results53, go_sem, *]) rfl ?_
              exact ⟨z1, z2, rfl, (HS.out.setNew (p := ⟨w.heap.size, 0, none⟩) hg _).setNew (p := ⟨w.heap.size, 1, none⟩) hg _, (HB.out.setNew (p := ⟨w.heap.size, 0, none⟩) (Nat.le_refl _) _).setNew (p := ⟨w.heap.size, 1, none⟩) (Nat.le_refl _) _⟩
            · skip
              have cl : (v17).cell? ⟨v10.heap.size, k2, none⟩ = some (.int .i64 z2) := HT2.out.at_ k2 HZ2.out
              go_simp
              refine hK.out _ _ trivial (fun _ => ?_)
              clear hK K cl
              try simp only [Act.put, List.getElem_toArray, List.getElem_cons_succ, List.getElem_cons_zero, List.setIfInBounds_toArray, List.set_cons_zero, List.set_cons_succ]
              refine wpAnyH_ready (rs := [4]) (by kernel_rfl) (by simp) ?_
              refine AllReadyH.cons rfl (fun K hK => ?_) (AllReadyH.nil)
              have cl : (v17).cell? ⟨v10.heap.size + 1, k1, none⟩ = some (.int .i64 z1) := HT1.out.at_ k1 HZ1.out
              go_simp
              refine hK.out _ _ trivial (fun _ => ?_)
              clear hK K cl
              try simp only [Act.put, List.getElem_toArray, List.getElem_cons_succ, List.getElem_cons_zero, List.setIfInBounds_toArray, List.set_cons_zero, List.set_cons_succ]
              (refine wpAnyH_take (i := 10) (v := ?hv44) rfl (by kernel_rfl) (by kernel_rfl) (by kernel_rfl) (fun _ _ _ h => h) (Or.inl ⟨by kernel_rfl, ?hy44⟩) hHeld ?hr44; case hy44 => (intro w hSw; (try dsimp only at hSw); go_simp; try with_reducible rfl))
              simp only [Act.put, List.getElem_toArray, List.getElem_cons_succ, List.getElem_cons_zero, List.setIfInBounds_toArray, List.set_cons_zero, List.set_cons_succ]
              refine wpAnyH_ready (rs := [11]) (by kernel_rfl) (by simp) ?_
              refine AllReadyH.cons rfl (fun K hK => ?_) (AllReadyH.nil)
              have r0 := HR.out.at_ 0 rfl
              have r1 := HR.out.at_ 1 rfl
              have f0 := HR.out.soft 0
              have f1 := HR.out.soft 1
              go_simp
              refine hK.out _ _ trivial (fun _ => ?_)
              clear hK K
              try simp only [Act.put, List.getElem_toArray, List.getElem_cons_succ, List.getElem_cons_zero, List.setIfInBounds_toArray, List.set_cons_zero, List.set_cons_succ]
              refine wpAnyH_done (by kernel_rfl) ?_ _
              go_wp2
              refine bodyPost_ret (v := .agg #[.int .i64 z1, .int .i64 z2]) (by simp [results, Tryd.results53, go_sem, *]) rfl ?_
              exact ⟨z1, z2, rfl, (HS.out.setNew (p := ⟨w.heap.size, 0, none⟩) hg _).setNew (p := ⟨w.heap.size, 1, none⟩) hg _, (HB.out.setNew (p := ⟨w.heap.size, 0, none⟩) (Nat.le_refl _) _).setNew (p := ⟨w.heap.size, 1, none⟩) (Nat.le_refl _) _⟩
        · skip
          go_simp
          go_at_call 51
          refine (n_any g b len cap 3 _ HS.out (by omega)).mono ?_
          rintro e v18 ⟨q2, rfl, hq0, hq1, hs, hb⟩
          obtain ⟨k2, z2, rfl, hk2, hz2⟩ := tab3 (a := (-1)) (b := 7) (c := 8) hq0 hq1
          have hp2 : (0 : Int) ≤ (k2 : Int) := Int.natCast_nonneg _
          have hu2 : (k2 : Int) < 3 := by omega
          have HZ2 := Lib.hid hz2
          have HB := Lib.hid (HB.out.trans hb)
          have HR := Lib.hid (Blk.but HR.out hb hgr)
          have HT2 := Lib.hid (Blk.but HT2.out hb (by exact hnB2))
          have HS := Lib.hid hs
          refine hK.out _ _ trivial (fun _ => ?_)
          clear hK K hs hb hq0 hq1 hz2
          try simp only [Act.put, List.getElem_toArray, List.getElem_cons_succ, List.getElem_cons_zero, List.setIfInBounds_toArray, List.set_cons_zero, List.set_cons_succ]
          (refine wpAnyH_take (i := 8) (v := ?hv45) rfl (by kernel_rfl) (by kernel_rfl) (by kernel_rfl) (fun _ _ _ h => h) (Or.inl ⟨by kernel_rfl, ?hy45⟩) hHeld ?hr45; case hy45 => (intro w hSw; (try dsimp only at hSw); go_simp; try with_reducible rfl))
          simp only [Act.put, List.getElem_toArray, List.getElem_cons_succ, List.getElem_cons_zero, List.setIfInBounds_toArray, List.set_cons_zero, List.set_cons_succ]
          refine wpAnyH_ready (rs := [0, 9]) (by kernel_rfl) (by simp) ?_
          refine AllReadyH.cons rfl (fun K hK => ?_) (AllReadyH.cons rfl (fun K hK => ?_) (AllReadyH.nil))
          · skip
            go_simp
            have hbA : But g (v18) (v18.alloc (.cells #[.int .i64 (-1), .int .i64 3, .int .i64 4] 2)) := (But.refl _ _).alloc _
            have hwl : w.heap.size ≤ (v18).heap.size := HB.out.size
            have HB := Lib.hid (HB.out.trans hbA)
            have HR := Lib.hid (Blk.but HR.out hbA hgr)
            have HT2 := Lib.hid (Blk.but HT2.out hbA (by exact hnB2))
            have HT1 := Lib.hid (show Blk (v18.alloc (.cells #[.int .i64 (-1), .int .i64 3, .int .i64 4] 2)) (v18.heap.size) 2 #[.int .i64 (-1), .int .i64 3, .int .i64 4] from by have h9 := Blk.new (v18) 2 #[.int .i64 (-1), .int .i64 3, .int .i64 4]; (try simp only [World.size_alloc, World.size_drew] at h9); exact h9)
            have HS := Lib.hid (HS.out.alloc (.cells #[.int .i64 (-1), .int .i64 3, .int .i64 4] 2))
            have hnB1 : v18.heap.size ≠ g := by have h9 := hwl; (try simp only [World.size_alloc, World.size_drew] at h9); omega
            refine hK.out _ _ trivial (fun _ => ?_)
            clear hK K hbA hwl
            try simp only [Act.put, List.getElem_toArray, List.getElem_cons_succ, List.getElem_cons_zero, List.setIfInBounds_toArray, List.set_cons_zero, List.set_cons_succ]
            (refine wpAnyH_take (i := 3) (v := ?hv46) rfl (by kernel_rfl) (by kernel_rfl) (by kernel_rfl) (fun _ _ _ h => h) (Or.inl ⟨by kernel_rfl, ?hy46⟩) hHeld ?hr46; case hy46 => (intro w hSw; (try dsimp only at hSw); go_simp; try with_reducible rfl))
            simp only [Act.put, List.getElem_toArray, List.getElem_cons_succ, List.getElem_cons_zero, List.setIfInBounds_toArray, List.set_cons_zero, List.set_cons_succ]
            refine wpAnyH_ready (rs := [4, 9]) (by kernel_rfl) (by simp) ?_
            refine AllReadyH.cons rfl (fun K hK => ?_) (AllReadyH.cons rfl (fun K hK => ?_) (AllReadyH.nil))
            · skip
              have cl : (v18.alloc (.cells #[.int .i64 (-1), .int .i64 3, .int .i64 4] 2)).cell? ⟨v18.heap.size, k1, none⟩ = some (.int .i64 z1) := HT1.out.at_ k1 HZ1.out
              go_simp
              refine hK.out _ _ trivial (fun _ => ?_)
              clear hK K cl
              try simp only [Act.put, List.getElem_toArray, List.getElem_cons_succ, List.getElem_cons_zero, List.setIfInBounds_toArray, List.set_cons_zero, List.set_cons_succ]
              refine wpAnyH_ready (rs := [9]) (by kernel_rfl) (by simp) ?_
              refine AllReadyH.cons rfl (fun K hK => ?_) (AllReadyH.nil)
              have cl : (v18.alloc (.cells #[.int .i64 (-1), .int .i64 3, .int .i64 4] 2)).cell? ⟨v10.heap.size, k2, none⟩ = some (.int .i64 z2) := HT2.out.at_ k2 HZ2.out
              go_simp
              refine hK.out _ _ trivial (fun _ => ?_)
              clear hK K cl
              try simp only [Act.put, List.getElem_toArray, List.getElem_cons_succ, List.getElem_cons_zero, List.setIfInBounds_toArray, List.set_cons_zero, List.set_cons_succ]
              (refine wpAnyH_take (i := 10) (v := ?hv47) rfl (by kernel_rfl) (by kernel_rfl) (by kernel_rfl) (fun _ _ _ h => h) (Or.inl ⟨by kernel_rfl, ?hy47⟩) hHeld ?hr47; case hy47 => (intro w hSw; (try dsimp only at hSw); go_simp; try with_reducible rfl))
              simp only [Act.put, List.getElem_toArray, List.getElem_cons_succ, List.getElem_cons_zero, List.setIfInBounds_toArray, List.set_cons_zero, List.set_cons_succ]
              refine wpAnyH_ready (rs := [11]) (by kernel_rfl) (by simp) ?_
              refine AllReadyH.cons rfl (fun K hK => ?_) (AllReadyH.nil)
              have r0 := HR.out.at_ 0 rfl
              have r1 := HR.out.at_ 1 rfl
              have f0 := HR.out.soft 0
              have f1 := HR.out.soft 1
              go_simp
              refine hK.out _ _ trivial (fun _ => ?_)
              clear hK K
              try simp only [Act.put, List.getElem_toArray, List.getElem_cons_succ, List.getElem_cons_zero, List.setIfInBounds_toArray, List.set_cons_zero, List.set_cons_succ]
              refine wpAnyH_done (by kernel_rfl) ?_ _
              go_wp2
              refine bodyPost_ret (v := .agg #[.int .i64 z1, .int .i64 z2]) (by simp [results, Tryd.results53, go_sem, *]) rfl ?_
              exact ⟨z1, z2, rfl, (HS.out.setNew (p := ⟨w.heap.size, 0, none⟩) hg _).setNew (p := ⟨w.heap.size, 1, none⟩) hg _, (HB.out.setNew (p := ⟨w.heap.size, 0, none⟩) (Nat.le_refl _) _).setNew (p := ⟨w.heap.size, 1, none⟩) (Nat.le_refl _) _⟩
            · skip
              have cl : (v18.alloc (.cells #[.int .i64 (-1), .int .i64 3, .int .i64 4] 2)).cell? ⟨v10.heap.size, k2, none⟩ = some (.int .i64 z2) := HT2.out.at_ k2 HZ2.out
              go_simp
              refine hK.out _ _ trivial (fun _ => ?_)
              clear hK K cl
              try simp only [Act.put, List.getElem_toArray, List.getElem_cons_succ, List.getElem_cons_zero, List.setIfInBounds_toArray, List.set_cons_zero, List.set_cons_succ]
              refine wpAnyH_ready (rs := [4]) (by kernel_rfl) (by simp) ?_
              refine AllReadyH.cons rfl (fun K hK => ?_) (AllReadyH.nil)
              have cl : (v18.alloc (.cells #[.int .i64 (-1), .int .i64 3, .int .i64 4] 2)).cell? ⟨v18.heap.size, k1, none⟩ = some (.int .i64 z1) := HT1.out.at_ k1 HZ1.out
              go_simp
              refine hK.out _ _ trivial (fun _ => ?_)
              clear hK K cl
              try simp only [Act.put, List.getElem_toArray, List.getElem_cons_succ, List.getElem_cons_zero, List.setIfInBounds_toArray, List.set_cons_zero, List.set_cons_succ]
              (refine wpAnyH_take (i := 10) (v := ?hv48) rfl (by kernel_rfl) (by kernel_rfl) (by kernel_rfl) (fun _ _ _ h => h) (Or.inl ⟨by kernel_rfl, ?hy48⟩) hHeld ?hr48; case hy48 => (intro w hSw; (try dsimp only at hSw); go_simp; try with_reducible rfl))
              simp only [Act.put, List.getElem_toArray, List.getElem_cons_succ, List.getElem_cons_zero, List.setIfInBounds_toArray, List.set_cons_zero, List.set_cons_succ]
              refine wpAnyH_ready (rs := [11]) (by kernel_rfl) (by simp) ?_
              refine AllReadyH.cons rfl (fun K hK => ?_) (AllReadyH.nil)
              have r0 := HR.out.at_ 0 rfl
              have r1 := HR.out.at_ 1 rfl
              have f0 := HR.out.soft 0
              have f1 := HR.out.soft 1
              go_simp
              refine hK.out _ _ trivial (fun _ => ?_)
              clear hK K
              try simp only [Act.put, List.getElem_toArray, List.getElem_cons_succ, List.getElem_cons_zero, List.setIfInBounds_toArray, List.set_cons_zero, List.set_cons_succ]
              refine wpAnyH_done (by kernel_rfl) ?_ _
              go_wp2
              refine bodyPost_ret (v := .agg #[.int .i64 z1, .int .i64 z2]) (by simp [results, Tryd.results53, go_sem, *]) rfl ?_
              exact ⟨z1, z2, rfl, (HS.out.setNew (p := ⟨w.heap.size, 0, none⟩) hg _).setNew (p := ⟨w.heap.size, 1, none⟩) hg _, (HB.out.setNew (p := ⟨w.heap.size, 0, none⟩) (Nat.le_refl _) _).setNew (p := ⟨w.heap.size, 1, none⟩) (Nat.le_refl _) _⟩
          · skip
            have cl : (v18).cell? ⟨v10.heap.size, k2, none⟩ = some (.int .i64 z2) := HT2.out.at_ k2 HZ2.out
            go_simp
            refine hK.out _ _ trivial (fun _ => ?_)
            clear hK K cl
            try simp only [Act.put, List.getElem_toArray, List.getElem_cons_succ, List.getElem_cons_zero, List.setIfInBounds_toArray, List.set_cons_zero, List.set_cons_succ]
            refine wpAnyH_ready (rs := [0]) (by kernel_rfl) (by simp) ?_
            refine AllReadyH.cons rfl (fun K hK => ?_) (AllReadyH.nil)
            go_simp
            have hbA : But g (v18) (v18.alloc (.cells #[.int .i64 (-1), .int .i64 3, .int .i64 4] 2)) := (But.refl _ _).alloc _
            have hwl : w.heap.size ≤ (v18).heap.size := HB.out.size
            have HB := Lib.hid (HB.out.trans hbA)
            have HR := Lib.hid (Blk.but HR.out hbA hgr)
            have HT2 := Lib.hid (Blk.but HT2.out hbA (by exact hnB2))
            have HT1 := Lib.hid (show Blk (v18.alloc (.cells #[.int .i64 (-1), .int .i64 3, .int .i64 4] 2)) (v18.heap.size) 2 #[.int .i64 (-1), .int .i64 3, .int .i64 4] from by have h9 := Blk.new (v18) 2 #[.int .i64 (-1), .int .i64 3, .int .i64 4]; (try simp only [World.size_alloc, World.size_drew] at h9); exact h9)
            have HS := Lib.hid (HS.out.alloc (.cells #[.int .i64 (-1), .int .i64 3, .int .i64 4] 2))
            have hnB1 : v18.heap.size ≠ g := by have h9 := hwl; (try simp only [World.size_alloc, World.size_drew] at h9); omega
            refine hK.out _ _ trivial (fun _ => ?_)
            clear hK K hbA hwl
            try simp only [Act.put, List.getElem_toArray, List.getElem_cons_succ, List.getElem_cons_zero, List.setIfInBounds_toArray, List.set_cons_zero, List.set_cons_succ]
            (refine wpAnyH_take (i := 3) (v := ?hv49) rfl (by kernel_rfl) (by kernel_rfl) (by kernel_rfl) (fun _ _ _ h => h) (Or.inl ⟨by kernel_rfl, ?hy49⟩) hHeld ?hr49; case hy49 => (intro w hSw; (try dsimp only at hSw); go_simp; try with_reducible rfl))
            simp only [Act.put, List.getElem_toArray, List.getElem_cons_succ, List.getElem_cons_zero, List.setIfInBounds_toArray, List.set_cons_zero, List.set_cons_succ]
            refine wpAnyH_ready (rs := [4]) (by kernel_rfl) (by simp) ?_
            refine AllReadyH.cons rfl (fun K hK => ?_) (AllReadyH.nil)
            have cl : (v18.alloc (.cells #[.int .i64 (-1), .int .i64 3, .int .i64 4] 2)).cell? ⟨v18.heap.size, k1, none⟩ = some (.int .i64 z1) := HT1.out.at_ k1 HZ1.out
            go_simp
            refine hK.out _ _ trivial (fun _ => ?_)
            clear hK K cl
            try simp only [Act.put, List.getElem_toArray, List.getElem_cons_succ, List.getElem_cons_zero, List.setIfInBounds_toArray, List.set_cons_zero, List.set_cons_succ]
            (refine wpAnyH_take (i := 10) (v := ?hv50) rfl (by kernel_rfl) (by kernel_rfl) (by kernel_rfl) (fun _ _ _ h => h) (Or.inl ⟨by kernel_rfl, ?hy50⟩) hHeld ?hr50; case hy50 => (intro w hSw; (try dsimp only at hSw); go_simp; try with_reducible rfl))
            simp only [Act.put, List.getElem_toArray, List.getElem_cons_succ, List.getElem_cons_zero, List.setIfInBounds_toArray, List.set_cons_zero, List.set_cons_succ]
            refine wpAnyH_ready (rs := [11]) (by kernel_rfl) (by simp) ?_
            refine AllReadyH.cons rfl (fun K hK => ?_) (AllReadyH.nil)
            have r0 := HR.out.at_ 0 rfl
            have r1 := HR.out.at_ 1 rfl
            have f0 := HR.out.soft 0
            have f1 := HR.out.soft 1
            go_simp
            refine hK.out _ _ trivial (fun _ => ?_)
            clear hK K
            try simp only [Act.put, List.getElem_toArray, List.getElem_cons_succ, List.getElem_cons_zero, List.setIfInBounds_toArray, List.set_cons_zero, List.set_cons_succ]
            refine wpAnyH_done (by kernel_rfl) ?_ _
            go_wp2
            refine bodyPost_ret (v := .agg #[.int .i64 z1, .int .i64 z2]) (by simp [results, Tryd.results53, go_sem, *]) rfl ?_
            exact ⟨z1, z2, rfl, (HS.out.setNew (p := ⟨w.heap.size, 0, none⟩) hg _).setNew (p := ⟨w.heap.size, 1, none⟩) hg _, (HB.out.setNew (p := ⟨w.heap.size, 0, none⟩) (Nat.le_refl _) _).setNew (p := ⟨w.heap.size, 1, none⟩) (Nat.le_refl _) _⟩
      · skip
        go_simp
        go_at_call 51
        refine (n_any g b len cap 3 _ HS.out (by omega)).mono ?_
        rintro e v19 ⟨q2, rfl, hq0, hq1, hs, hb⟩
        obtain ⟨k2, z2, rfl, hk2, hz2⟩ := tab3 (a := (-1)) (b := 7) (c := 8) hq0 hq1
        have hp2 : (0 : Int) ≤ (k2 : Int) := Int.natCast_nonneg _
        have hu2 : (k2 : Int) < 3 := by omega
        have HZ2 := Lib.hid hz2
        have HB := Lib.hid (HB.out.trans hb)
        have HR := Lib.hid (Blk.but HR.out hb hgr)
        have HS := Lib.hid hs
        refine hK.out _ _ trivial (fun _ => ?_)
        clear hK K hs hb hq0 hq1 hz2
        try simp only [Act.put, List.getElem_toArray, List.getElem_cons_succ, List.getElem_cons_zero, List.setIfInBounds_toArray, List.set_cons_zero, List.set_cons_succ]
        refine wpAnyH_ready (rs := [0, 5]) (by kernel_rfl) (by simp) ?_
        refine AllReadyH.cons rfl (fun K hK => ?_) (AllReadyH.cons rfl (fun K hK => ?_) (AllReadyH.nil))
        · skip
          go_simp
          have hbA : But g (v19) (v19.alloc (.cells #[.int .i64 (-1), .int .i64 3, .int .i64 4] 2)) := (But.refl _ _).alloc _
          have hwl : w.heap.size ≤ (v19).heap.size := HB.out.size
          have HB := Lib.hid (HB.out.trans hbA)
          have HR := Lib.hid (Blk.but HR.out hbA hgr)
          have HT1 := Lib.hid (show Blk (v19.alloc (.cells #[.int .i64 (-1), .int .i64 3, .int .i64 4] 2)) (v19.heap.size) 2 #[.int .i64 (-1), .int .i64 3, .int .i64 4] from by have h9 := Blk.new (v19) 2 #[.int .i64 (-1), .int .i64 3, .int .i64 4]; (try simp only [World.size_alloc, World.size_drew] at h9); exact h9)
          have HS := Lib.hid (HS.out.alloc (.cells #[.int .i64 (-1), .int .i64 3, .int .i64 4] 2))
          have hnB1 : v19.heap.size ≠ g := by have h9 := hwl; (try simp only [World.size_alloc, World.size_drew] at h9); omega
          refine hK.out _ _ trivial (fun _ => ?_)
          clear hK K hbA hwl
          try simp only [Act.put, List.getElem_toArray, List.getElem_cons_succ, List.getElem_cons_zero, List.setIfInBounds_toArray, List.set_cons_zero, List.set_cons_succ]
          (refine wpAnyH_take (i := 3) (v := ?hv51) rfl (by kernel_rfl) (by kernel_rfl) (by kernel_rfl) (fun _ _ _ h => h) (Or.inl ⟨by kernel_rfl, ?hy51⟩) hHeld ?hr51; case hy51 => (intro w hSw; (try dsimp only at hSw); go_simp; try with_reducible rfl))
          simp only [Act.put, List.getElem_toArray, List.getElem_cons_succ, List.getElem_cons_zero, List.setIfInBounds_toArray, List.set_cons_zero, List.set_cons_succ]
          refine wpAnyH_ready (rs := [4, 5]) (by kernel_rfl) (by simp) ?_
          refine AllReadyH.cons rfl (fun K hK => ?_) (AllReadyH.cons rfl (fun K hK => ?_) (AllReadyH.nil))
          · skip
            have cl : (v19.alloc (.cells #[.int .i64 (-1), .int .i64 3, .int .i64 4] 2)).cell? ⟨v19.heap.size, k1, none⟩ = some (.int .i64 z1) := HT1.out.at_ k1 HZ1.out
            go_simp
            refine hK.out _ _ trivial (fun _ => ?_)
            clear hK K cl
            try simp only [Act.put, List.getElem_toArray, List.getElem_cons_succ, List.getElem_cons_zero, List.setIfInBounds_toArray, List.set_cons_zero, List.set_cons_succ]
            refine wpAnyH_ready (rs := [5]) (by kernel_rfl) (by simp) ?_
            refine AllReadyH.cons rfl (fun K hK => ?_) (AllReadyH.nil)
            go_simp
            have hbA : But g (v19.alloc (.cells #[.int .i64 (-1), .int .i64 3, .int .i64 4] 2)) ((v19.alloc (.cells #[.int .i64 (-1), .int .i64 3, .int .i64 4] 2)).alloc (.cells #[.int .i64 (-1), .int .i64 7, .int .i64 8] 2)) := (But.refl _ _).alloc _
            have hwl : w.heap.size ≤ (v19.alloc (.cells #[.int .i64 (-1), .int .i64 3, .int .i64 4] 2)).heap.size := HB.out.size
            have HB := Lib.hid (HB.out.trans hbA)
            have HR := Lib.hid (Blk.but HR.out hbA hgr)
            have HT1 := Lib.hid (Blk.but HT1.out hbA (by exact hnB1))
            have HT2 := Lib.hid (show Blk ((v19.alloc (.cells #[.int .i64 (-1), .int .i64 3, .int .i64 4] 2)).alloc (.cells #[.int .i64 (-1), .int .i64 7, .int .i64 8] 2)) (v19.heap.size + 1) 2 #[.int .i64 (-1), .int .i64 7, .int .i64 8] from by have h9 := Blk.new (v19.alloc (.cells #[.int .i64 (-1), .int .i64 3, .int .i64 4] 2)) 2 #[.int .i64 (-1), .int .i64 7, .int .i64 8]; (try simp only [World.size_alloc, World.size_drew] at h9); exact h9)
            have HS := Lib.hid (HS.out.alloc (.cells #[.int .i64 (-1), .int .i64 7, .int .i64 8] 2))
            have hnB2 : v19.heap.size + 1 ≠ g := by have h9 := hwl; (try simp only [World.size_alloc, World.size_drew] at h9); omega
            refine hK.out _ _ trivial (fun _ => ?_)
            clear hK K hbA hwl
            try simp only [Act.put, List.getElem_toArray, List.getElem_cons_succ, List.getElem_cons_zero, List.setIfInBounds_toArray, List.set_cons_zero, List.set_cons_succ]
            (refine wpAnyH_take (i := 8) (v := ?hv52) rfl (by kernel_rfl) (by kernel_rfl) (by kernel_rfl) (fun _ _ _ h => h) (Or.inl ⟨by kernel_rfl, ?hy52⟩) hHeld ?hr52; case hy52 => (intro w hSw; (try dsimp only at hSw); go_simp; try with_reducible rfl))
            simp only [Act.put, List.getElem_toArray, List.getElem_cons_succ, List.getElem_cons_zero, List.setIfInBounds_toArray, List.set_cons_zero, List.set_cons_succ]
            refine wpAnyH_ready (rs := [9]) (by kernel_rfl) (by simp) ?_
            refine AllReadyH.cons rfl (fun K hK => ?_) (AllReadyH.nil)
            have cl : ((v19.alloc (.cells #[.int .i64 (-1), .int .i64 3, .int .i64 4] 2)).alloc (.cells #[.int .i64 (-1), .int .i64 7, .int .i64 8] 2)).cell? ⟨v19.heap.size + 1, k2, none⟩ = some (.int .i64 z2) := HT2.out.at_ k2 HZ2.out
            go_simp
            refine hK.out _ _ trivial (fun _ => ?_)
            clear hK K cl
            try simp only [Act.put, List.getElem_toArray, List.getElem_cons_succ, List.getElem_cons_zero, List.setIfInBounds_toArray, List.set_cons_zero, List.set_cons_succ]
            (refine wpAnyH_take (i := 10) (v := ?hv53) rfl (by kernel_rfl) (by kernel_rfl) (by kernel_rfl) (fun _ _ _ h => h) (Or.inl ⟨by kernel_rfl, ?hy53⟩) hHeld ?hr53; case hy53 => (intro w hSw; (try dsimp only at hSw); go_simp; try with_reducible rfl))
            simp only [Act.put, List.getElem_toArray, List.getElem_cons_succ, List.getElem_cons_zero, List.setIfInBounds_toArray, List.set_cons_zero, List.set_cons_succ]
            refine wpAnyH_ready (rs := [11]) (by kernel_rfl) (by simp) ?_
            refine AllReadyH.cons rfl (fun K hK => ?_) (AllReadyH.nil)
            have r0 := HR.out.at_ 0 rfl
            have r1 := HR.out.at_ 1 rfl
            have f0 := HR.out.soft 0
            have f1 := HR.out.soft 1
            go_simp
            refine hK.out _ _ trivial (fun _ => ?_)
            clear hK K
            try simp only [Act.put, List.getElem_toArray, List.getElem_cons_succ, List.getElem_cons_zero, List.setIfInBounds_toArray, List.set_cons_zero, List.set_cons_succ]
            refine wpAnyH_done (by kernel_rfl) ?_ _
            go_wp2
            refine bodyPost_ret (v := .agg #[.int .i64 z1, .int .i64 z2]) (by simp [results, Tryd.results53, go_sem, *]) rfl ?_
            exact ⟨z1, z2, rfl, (HS.out.setNew (p := ⟨w.heap.size, 0, none⟩) hg _).setNew (p := ⟨w.heap.size, 1, none⟩) hg _, (HB.out.setNew (p := ⟨w.heap.size, 0, none⟩) (Nat.le_refl _) _).setNew (p := ⟨w.heap.size, 1, none⟩) (Nat.le_refl _) _⟩
          · skip
            go_simp
            have hbA : But g (v19.alloc (.cells #[.int .i64 (-1), .int .i64 3, .int .i64 4] 2)) ((v19.alloc (.cells #[.int .i64 (-1), .int .i64 3, .int .i64 4] 2)).alloc (.cells #[.int .i64 (-1), .int .i64 7, .int .i64 8] 2)) := (But.refl _ _).alloc _
            have hwl : w.heap.size ≤ (v19.alloc (.cells #[.int .i64 (-1), .int .i64 3, .int .i64 4] 2)).heap.size := HB.out.size
            have HB := Lib.hid (HB.out.trans hbA)
            have HR := Lib.hid (Blk.but HR.out hbA hgr)
            have HT1 := Lib.hid (Blk.but HT1.out hbA (by exact hnB1))
            have HT2 := Lib.hid (show Blk ((v19.alloc (.cells #[.int .i64 (-1), .int .i64 3, .int .i64 4] 2)).alloc (.cells #[.int .i64 (-1), .int .i64 7, .int .i64 8] 2)) (v19.heap.size + 1) 2 #[.int .i64 (-1), .int .i64 7, .int .i64 8] from by have h9 := Blk.new (v19.alloc (.cells #[.int .i64 (-1), .int .i64 3, .int .i64 4] 2)) 2 #[.int .i64 (-1), .int .i64 7, .int .i64 8]; (try simp only [World.size_alloc, World.size_drew] at h9); exact h9)
            have HS := Lib.hid (HS.out.alloc (.cells #[.int .i64 (-1), .int .i64 7, .int .i64 8] 2))
            have hnB2 : v19.heap.size + 1 ≠ g := by have h9 := hwl; (try simp only [World.size_alloc, World.size_drew] at h9); omega
            refine hK.out _ _ trivial (fun _ => ?_)
            clear hK K hbA hwl
            try simp only [Act.put, List.getElem_toArray, List.getElem_cons_succ, List.getElem_cons_zero, List.setIfInBounds_toArray, List.set_cons_zero, List.set_cons_succ]
            (refine wpAnyH_take (i := 8) (v := ?hv54) rfl (by kernel_rfl) (by kernel_rfl) (by kernel_rfl) (fun _ _ _ h => h) (Or.inl ⟨by kernel_rfl, ?hy54⟩) hHeld ?hr54; case hy54 => (intro w hSw; (try dsimp only at hSw); go_simp; try with_reducible rfl))
            simp only [Act.put, List.getElem_toArray, List.getElem_cons_succ, List.getElem_cons_zero, List.setIfInBounds_toArray, List.set_cons_zero, List.set_cons_succ]
            refine wpAnyH_ready (rs := [4, 9]) (by kernel_rfl) (by simp) ?_
            refine AllReadyH.cons rfl (fun K hK => ?_) (AllReadyH.cons rfl (fun K hK => ?_) (AllReadyH.nil))
            · skip
              have cl : ((v19.alloc (.cells #[.int .i64 (-1), .int .i64 3, .int .i64 4] 2)).alloc (.cells #[.int .i64 (-1), .int .i64 7, .int .i64 8] 2)).cell? ⟨v19.heap.size, k1, none⟩ = some (.int .i64 z1) := HT1.out.at_ k1 HZ1.out
              go_simp
              refine hK.out _ _ trivial (fun _ => ?_)
              clear hK K cl
              try simp only [Act.put, List.getElem_toArray, List.getElem_cons_succ, List.getElem_cons_zero, List.setIfInBounds_toArray, List.set_cons_zero, List.set_cons_succ]
              refine wpAnyH_ready (rs := [9]) (by kernel_rfl) (by simp) ?_
              refine AllReadyH.cons rfl (fun K hK => ?_) (AllReadyH.nil)
              have cl : ((v19.alloc (.cells #[.int .i64 (-1), .int .i64 3, .int .i64 4] 2)).alloc (.cells #[.int .i64 (-1), .int .i64 7, .int .i64 8] 2)).cell? ⟨v19.heap.size + 1, k2, none⟩ = some (.int .i64 z2) := HT2.out.at_ k2 HZ2.out
              go_simp
              refine hK.out _ _ trivial (fun _ => ?_)
              clear hK K cl
              try simp only [Act.put, List.getElem_toArray, List.getElem_cons_succ, List.getElem_cons_zero, List.setIfInBounds_toArray, List.set_cons_zero, List.set_cons_succ]
              (refine wpAnyH_take (i := 10) (v := ?hv55) rfl (by kernel_rfl) (by kernel_rfl) (by kernel_rfl) (fun _ _ _ h => h) (Or.inl ⟨by kernel_rfl, ?hy55⟩) hHeld ?hr55; case hy55 => (intro w hSw; (try dsimp only at hSw); go_simp; try with_reducible rfl))
              simp only [Act.put, List.getElem_toArray, List.getElem_cons_succ, List.getElem_cons_zero, List.setIfInBounds_toArray, List.set_cons_zero, List.set_cons_succ]
              refine wpAnyH_ready (rs := [11]) (by kernel_rfl) (by simp) ?_
              refine AllReadyH.cons rfl (fun K hK => ?_) (AllReadyH.nil)
              have r0 := HR.out.at_ 0 rfl
              have r1 := HR.out.at_ 1 rfl
              have f0 := HR.out.soft 0
              have f1 := HR.out.soft 1
              go_simp
              refine hK.out _ _ trivial (fun _ => ?_)
              clear hK K
              try simp only [Act.put, List.getElem_toArray, List.getElem_cons_succ, List.getElem_cons_zero, List.setIfInBounds_toArray, List.set_cons_zero, List.set_cons_succ]
              refine wpAnyH_done (by kernel_rfl) ?_ _
              go_wp2
              refine bodyPost_ret (v := .agg #[.int .i64 z1, .int .i64 z2]) (by simp [results, Tryd.results53, go_sem, *]) rfl ?_
              exact ⟨z1, z2, rfl, (HS.out.setNew (p := ⟨w.heap.size, 0, none⟩) hg _).setNew (p := ⟨w.heap.size, 1, none⟩) hg _, (HB.out.setNew (p := ⟨w.heap.size, 0, none⟩) (Nat.le_refl _) _).setNew (p := ⟨w.heap.size, 1, none⟩) (Nat.le_refl _) _⟩
            · skip
              have cl : ((v19.alloc (.cells #[.int .i64 (-1), .int .i64 3, .int .i64 4] 2)).alloc (.cells #[.int .i64 (-1), .int .i64 7, .int .i64 8] 2)).cell? ⟨v19.heap.size + 1, k2, none⟩ = some (.int .i64 z2) := HT2.out.at_ k2 HZ2.out
              go_simp
              refine hK.out _ _ trivial (fun _ => ?_)
              clear hK K cl
              try simp only [Act.put, List.getElem_toArray, List.getElem_cons_succ, List.getElem_cons_zero, List.setIfInBounds_toArray, List.set_cons_zero, List.set_cons_succ]
              refine wpAnyH_ready (rs := [4]) (by kernel_rfl) (by simp) ?_
              refine AllReadyH.cons rfl (fun K hK => ?_) (AllReadyH.nil)
              have cl : ((v19.alloc (.cells #[.int .i64 (-1), .int .i64 3, .int .i64 4] 2)).alloc (.cells #[.int .i64 (-1), .int .i64 7, .int .i64 8] 2)).cell? ⟨v19.heap.size, k1, none⟩ = some (.int .i64 z1) := HT1.out.at_ k1 HZ1.out
              go_simp
              refine hK.out _ _ trivial (fun _ => ?_)
              clear hK K cl
              try simp only [Act.put, List.getElem_toArray, List.getElem_cons_succ, List.getElem_cons_zero, List.setIfInBounds_toArray, List.set_cons_zero, List.set_cons_succ]
              (refine wpAnyH_take (i := 10) (v := ?hv56) rfl (by kernel_rfl) (by kernel_rfl) (by kernel_rfl) (fun _ _ _ h => h) (Or.inl ⟨by kernel_rfl, ?hy56⟩) hHeld ?hr56; case hy56 => (intro w hSw; (try dsimp only at hSw); go_simp; try with_reducible rfl))
              simp only [Act.put, List.getElem_toArray, List.getElem_cons_succ, List.getElem_cons_zero, List.setIfInBounds_toArray, List.set_cons_zero, List.set_cons_succ]
              refine wpAnyH_ready (rs := [11]) (by kernel_rfl) (by simp) ?_
              refine AllReadyH.cons rfl (fun K hK => ?_) (AllReadyH.nil)
              have r0 := HR.out.at_ 0 rfl
              have r1 := HR.out.at_ 1 rfl
              have f0 := HR.out.soft 0
              have f1 := HR.out.soft 1
              go_simp
              refine hK.out _ _ trivial (fun _ => ?_)
              clear hK K
              try simp only [Act.put, List.getElem_toArray, List.getElem_cons_succ, List.getElem_cons_zero, List.setIfInBounds_toArray, List.set_cons_zero, List.set_cons_succ]
              refine wpAnyH_done (by kernel_rfl) ?_ _
              go_wp2
              refine bodyPost_ret (v := .agg #[.int .i64 z1, .int .i64 z2]) (by simp [results, Tryd.results53, go_sem, *]) rfl ?_
              exact ⟨z1, z2, rfl, (HS.out.setNew (p := ⟨w.heap.size, 0, none⟩) hg _).setNew (p := ⟨w.heap.size, 1, none⟩) hg _, (HB.out.setNew (p := ⟨w.heap.size, 0, none⟩) (Nat.le_refl _) _).setNew (p := ⟨w.heap.size, 1, none⟩) (Nat.le_refl _) _⟩
        · skip
          go_simp
          have hbA : But g (v19) (v19.alloc (.cells #[.int .i64 (-1), .int .i64 7, .int .i64 8] 2)) := (But.refl _ _).alloc _
          have hwl : w.heap.size ≤ (v19).heap.size := HB.out.size
          have HB := Lib.hid (HB.out.trans hbA)
          have HR := Lib.hid (Blk.but HR.out hbA hgr)
          have HT2 := Lib.hid (show Blk (v19.alloc (.cells #[.int .i64 (-1), .int .i64 7, .int .i64 8] 2)) (v19.heap.size) 2 #[.int .i64 (-1), .int .i64 7, .int .i64 8] from by have h9 := Blk.new (v19) 2 #[.int .i64 (-1), .int .i64 7, .int .i64 8]; (try simp only [World.size_alloc, World.size_drew] at h9); exact h9)
          have HS := Lib.hid (HS.out.alloc (.cells #[.int .i64 (-1), .int .i64 7, .int .i64 8] 2))
          have hnB2 : v19.heap.size ≠ g := by have h9 := hwl; (try simp only [World.size_alloc, World.size_drew] at h9); omega
          refine hK.out _ _ trivial (fun _ => ?_)
          clear hK K hbA hwl
          try simp only [Act.put, List.getElem_toArray, List.getElem_cons_succ, List.getElem_cons_zero, List.setIfInBounds_toArray, List.set_cons_zero, List.set_cons_succ]
          (refine wpAnyH_take (i := 8) (v := ?hv57) rfl (by kernel_rfl) (by kernel_rfl) (by kernel_rfl) (fun _ _ _ h => h) (Or.inl ⟨by kernel_rfl, ?hy57⟩) hHeld ?hr57; case hy57 => (intro w hSw; (try dsimp only at hSw); go_simp; try with_reducible rfl))
          simp only [Act.put, List.getElem_toArray, List.getElem_cons_succ, List.getElem_cons_zero, List.setIfInBounds_toArray, List.set_cons_zero, List.set_cons_succ]
          refine wpAnyH_ready (rs := [0, 9]) (by kernel_rfl) (by simp) ?_
          refine AllReadyH.cons rfl (fun K hK => ?_) (AllReadyH.cons rfl (fun K hK => ?_) (AllReadyH.nil))
          · skip
            go_simp
            have hbA : But g (v19.alloc (.cells #[.int .i64 (-1), .int .i64 7, .int .i64 8] 2)) ((v19.alloc (.cells #[.int .i64 (-1), .int .i64 7, .int .i64 8] 2)).alloc (.cells #[.int .i64 (-1), .int .i64 3, .int .i64 4] 2)) := (But.refl _ _).alloc _
            have hwl : w.heap.size ≤ (v19.alloc (.cells #[.int .i64 (-1), .int .i64 7, .int .i64 8] 2)).heap.size := HB.out.size
            have HB := Lib.hid (HB.out.trans hbA)
            have HR := Lib.hid (Blk.but HR.out hbA hgr)
            have HT2 := Lib.hid (Blk.but HT2.out hbA (by exact hnB2))
            have HT1 := Lib.hid (show Blk ((v19.alloc (.cells #[.int .i64 (-1), .int .i64 7, .int .i64 8] 2)).alloc (.cells #[.int .i64 (-1), .int .i64 3, .int .i64 4] 2)) (v19.heap.size + 1) 2 #[.int .i64 (-1), .int .i64 3, .int .i64 4] from by have h9 := Blk.new (v19.alloc (.cells #[.int .i64 (-1), .int .i64 7, .int .i64 8] 2)) 2 #[.int .i64 (-1), .int .i64 3, .int .i64 4]; (try simp only [World.size_alloc, World.size_drew] at h9); exact h9)
            have HS := Lib.hid (HS.out.alloc (.cells #[.int .i64 (-1), .int .i64 3, .int .i64 4] 2))
            have hnB1 : v19.heap.size + 1 ≠ g := by have h9 := hwl; (try simp only [World.size_alloc, World.size_drew] at h9); omega
            refine hK.out _ _ trivial (fun _ => ?_)
            clear hK K hbA hwl
            try simp only [Act.put, List.getElem_toArray, List.getElem_cons_succ, List.getElem_cons_zero, List.setIfInBounds_toArray, List.set_cons_zero, List.set_cons_succ]
            (refine wpAnyH_take (i := 3) (v := ?hv58) rfl (by kernel_rfl) (by kernel_rfl) (by kernel_rfl) (fun _ _ _ h => h) (Or.inl ⟨by kernel_rfl, ?hy58⟩) hHeld ?hr58; case hy58 => (intro w hSw; (try dsimp only at hSw); go_simp; try with_reducible rfl))
            simp only [Act.put, List.getElem_toArray, List.getElem_cons_succ, List.getElem_cons_zero, List.setIfInBounds_toArray, List.set_cons_zero, List.set_cons_succ]
            refine wpAnyH_ready (rs := [4, 9]) (by kernel_rfl) (by simp) ?_
            refine AllReadyH.cons rfl (fun K hK => ?_) (AllReadyH.cons rfl (fun K hK => ?_) (AllReadyH.nil))
            · skip
              have cl : ((v19.alloc (.cells #[.int .i64 (-1), .int .i64 7, .int .i64 8] 2)).alloc (.cells #[.int .i64 (-1), .int .i64 3, .int .i64 4] 2)).cell? ⟨v19.heap.size + 1, k1, none⟩ = some (.int .i64 z1) := HT1.out.at_ k1 HZ1.out
              go_simp
              refine hK.out _ _ trivial (fun _ => ?_)
              clear hK K cl
              try simp only [Act.put, List.getElem_toArray, List.getElem_cons_succ, List.getElem_cons_zero, List.setIfInBounds_toArray, List.set_cons_zero, List.set_cons_succ]
              refine wpAnyH_ready (rs := [9]) (by kernel_rfl) (by simp) ?_
              refine AllReadyH.cons rfl (fun K hK => ?_) (AllReadyH.nil)
              have cl : ((v19.alloc (.cells #[.int .i64 (-1), .int .i64 7, .int .i64 8] 2)).alloc (.cells #[.int .i64 (-1), .int .i64 3, .int .i64 4] 2)).cell? ⟨v19.heap.size, k2, none⟩ = some (.int .i64 z2) := HT2.out.at_ k2 HZ2.out
              go_simp
              refine hK.out _ _ trivial (fun _ => ?_)
              clear hK K cl
              try simp only [Act.put, List.getElem_toArray, List.getElem_cons_succ, List.getElem_cons_zero, List.setIfInBounds_toArray, List.set_cons_zero, List.set_cons_succ]
              (refine wpAnyH_take (i := 10) (v := ?hv59) rfl (by kernel_rfl) (by kernel_rfl) (by kernel_rfl) (fun _ _ _ h => h) (Or.inl ⟨by kernel_rfl, ?hy59⟩) hHeld ?hr59; case hy59 => (intro w hSw; (try dsimp only at hSw); go_simp; try with_reducible rfl))
              simp only [Act.put, List.getElem_toArray, List.getElem_cons_succ, List.getElem_cons_zero, List.setIfInBounds_toArray, List.set_cons_zero, List.set_cons_succ]
              refine wpAnyH_ready (rs := [11]) (by kernel_rfl) (by simp) ?_
              refine AllReadyH.cons rfl (fun K hK => ?_) (AllReadyH.nil)
              have r0 := HR.out.at_ 0 rfl
              have r1 := HR.out.at_ 1 rfl
              have f0 := HR.out.soft 0
              have f1 := HR.out.soft 1
              go_simp
              refine hK.out _ _ trivial (fun _ => ?_)
              clear hK K
              try simp only [Act.put, List.getElem_toArray, List.getElem_cons_succ, List.getElem_cons_zero, List.setIfInBounds_toArray, List.set_cons_zero, List.set_cons_succ]
              refine wpAnyH_done (by kernel_rfl) ?_ _
              go_wp2
              refine bodyPost_ret (v := .agg #[.int .i64 z1, .int .i64 z2]) (by simp [results, Tryd.results53, go_sem, *]) rfl ?_
              exact ⟨z1, z2, rfl, (HS.out.setNew (p := ⟨w.heap.size, 0, none⟩) hg _).setNew (p := ⟨w.heap.size, 1, none⟩) hg _, (HB.out.setNew (p := ⟨w.heap.size, 0, none⟩) (Nat.le_refl _) _).setNew (p := ⟨w.heap.size, 1, none⟩) (Nat.le_refl _) _⟩
            · skip
              have cl : ((v19.alloc (.cells #[.int .i64 (-1), .int .i64 7, .int .i64 8] 2)).alloc (.cells #[.int .i64 (-1), .int .i64 3, .int .i64 4] 2)).cell? ⟨v19.heap.size, k2, none⟩ = some (.int .i64 z2) := HT2.out.at_ k2 HZ2.out
              go_simp
              refine hK.out _ _ trivial (fun _ => ?_)
              clear hK K cl
              try simp only [Act.put, List.getElem_toArray, List.getElem_cons_succ, List.getElem_cons_zero, List.setIfInBounds_toArray, List.set_cons_zero, List.set_cons_succ]
              refine wpAnyH_ready (rs := [4]) (by kernel_rfl) (by simp) ?_
              refine AllReadyH.cons rfl (fun K hK => ?_) (AllReadyH.nil)
              have cl : ((v19.alloc (.cells #[.int .i64 (-1), .int .i64 7, .int .i64 8] 2)).alloc (.cells #[.int .i64 (-1), .int .i64 3, .int .i64 4] 2)).cell? ⟨v19.heap.size + 1, k1, none⟩ = some (.int .i64 z1) := HT1.out.at_ k1 HZ1.out
              go_simp
              refine hK.out _ _ trivial (fun _ => ?_)
              clear hK K cl
              try simp only [Act.put, List.getElem_toArray, List.getElem_cons_succ, List.getElem_cons_zero, List.setIfInBounds_toArray, List.set_cons_zero, List.set_cons_succ]
              (refine wpAnyH_take (i := 10) (v := ?hv60) rfl (by kernel_rfl) (by kernel_rfl) (by kernel_rfl) (fun _ _ _ h => h) (Or.inl ⟨by kernel_rfl, ?hy60⟩) hHeld ?hr60; case hy60 => (intro w hSw; (try dsimp only at hSw); go_simp; try with_reducible rfl))
              simp only [Act.put, List.getElem_toArray, List.getElem_cons_succ, List.getElem_cons_zero, List.setIfInBounds_toArray, List.set_cons_zero, List.set_cons_succ]
              refine wpAnyH_ready (rs := [11]) (by kernel_rfl) (by simp) ?_
              refine AllReadyH.cons rfl (fun K hK => ?_) (AllReadyH.nil)
              have r0 := HR.out.at_ 0 rfl
              have r1 := HR.out.at_ 1 rfl
              have f0 := HR.out.soft 0
              have f1 := HR.out.soft 1
              go_simp
              refine hK.out _ _ trivial (fun _ => ?_)
              clear hK K
              try simp only [Act.put, List.getElem_toArray, List.getElem_cons_succ, List.getElem_cons_zero, List.setIfInBounds_toArray, List.set_cons_zero, List.set_cons_succ]
              refine wpAnyH_done (by kernel_rfl) ?_ _
              go_wp2
              refine bodyPost_ret (v := .agg #[.int .i64 z1, .int .i64 z2]) (by simp [results, Tryd.results53, go_sem, *]) rfl ?_
              exact ⟨z1, z2, rfl, (HS.out.setNew (p := ⟨w.heap.size, 0, none⟩) hg _).setNew (p := ⟨w.heap.size, 1, none⟩) hg _, (HB.out.setNew (p := ⟨w.heap.size, 0, none⟩) (Nat.le_refl _) _).setNew (p := ⟨w.heap.size, 1, none⟩) (Nat.le_refl _) _⟩
          · skip
            have cl : (v19.alloc (.cells #[.int .i64 (-1), .int .i64 7, .int .i64 8] 2)).cell? ⟨v19.heap.size, k2, none⟩ = some (.int .i64 z2) := HT2.out.at_ k2 HZ2.out
            go_simp
            refine hK.out _ _ trivial (fun _ => ?_)
            clear hK K cl
            try simp only [Act.put, List.getElem_toArray, List.getElem_cons_succ, List.getElem_cons_zero, List.setIfInBounds_toArray, List.set_cons_zero, List.set_cons_succ]
            refine wpAnyH_ready (rs := [0]) (by kernel_rfl) (by simp) ?_
            refine AllReadyH.cons rfl (fun K hK => ?_) (AllReadyH.nil)
            go_simp
            have hbA : But g (v19.alloc (.cells #[.int .i64 (-1), .int .i64 7, .int .i64 8] 2)) ((v19.alloc (.cells #[.int .i64 (-1), .int .i64 7, .int .i64 8] 2)).alloc (.cells #[.int .i64 (-1), .int .i64 3, .int .i64 4] 2)) := (But.refl _ _).alloc _
            have hwl : w.heap.size ≤ (v19.alloc (.cells #[.int .i64 (-1), .int .i64 7, .int .i64 8] 2)).heap.size := HB.out.size
            have HB := Lib.hid (HB.out.trans hbA)
            have HR := Lib.hid (Blk.but HR.out hbA hgr)
            have HT2 := Lib.hid (Blk.but HT2.out hbA (by exact hnB2))
            have HT1 := Lib.hid (show Blk ((v19.alloc (.cells #[.int .i64 (-1), .int .i64 7, .int .i64 8] 2)).alloc (.cells #[.int .i64 (-1), .int .i64 3, .int .i64 4] 2)) (v19.heap.size + 1) 2 #[.int .i64 (-1), .int .i64 3, .int .i64 4] from by have h9 := Blk.new (v19.alloc (.cells #[.int .i64 (-1), .int .i64 7, .int .i64 8] 2)) 2 #[.int .i64 (-1), .int .i64 3, .int .i64 4]; (try simp only [World.size_alloc, World.size_drew] at h9); exact h9)
            have HS := Lib.hid (HS.out.alloc (.cells #[.int .i64 (-1), .int .i64 3, .int .i64 4] 2))
            have hnB1 : v19.heap.size + 1 ≠ g := by have h9 := hwl; (try simp only [World.size_alloc, World.size_drew] at h9); omega
            refine hK.out _ _ trivial (fun _ => ?_)
            clear hK K hbA hwl
            try simp only [Act.put, List.getElem_toArray, List.getElem_cons_succ, List.getElem_cons_zero, List.setIfInBounds_toArray, List.set_cons_zero, List.set_cons_succ]
            (refine wpAnyH_take (i := 3) (v := ?hv61) rfl (by kernel_rfl) (by kernel_rfl) (by kernel_rfl) (fun _ _ _ h => h) (Or.inl ⟨by kernel_rfl, ?hy61⟩) hHeld ?hr61; case hy61 => (intro w hSw; (try dsimp only at hSw); go_simp; try with_reducible rfl))
            simp only [Act.put, List.getElem_toArray, List.getElem_cons_succ, List.getElem_cons_zero, List.setIfInBounds_toArray, List.set_cons_zero, List.set_cons_succ]
            refine wpAnyH_ready (rs := [4]) (by kernel_rfl) (by simp) ?_
            refine AllReadyH.cons rfl (fun K hK => ?_) (AllReadyH.nil)
            have cl : ((v19.alloc (.cells #[.int .i64 (-1), .int .i64 7, .int .i64 8] 2)).alloc (.cells #[.int .i64 (-1), .int .i64 3, .int .i64 4] 2)).cell? ⟨v19.heap.size + 1, k1, none⟩ = some (.int .i64 z1) := HT1.out.at_ k1 HZ1.out
            go_simp
            refine hK.out _ _ trivial (fun _ => ?_)
            clear hK K cl
            try simp only [Act.put, List.getElem_toArray, List.getElem_cons_succ, List.getElem_cons_zero, List.setIfInBounds_toArray, List.set_cons_zero, List.set_cons_succ]
            (refine wpAnyH_take (i := 10) (v := ?hv62) rfl (by kernel_rfl) (by kernel_rfl) (by kernel_rfl) (fun _ _ _ h => h) (Or.inl ⟨by kernel_rfl, ?hy62⟩) hHeld ?hr62; case hy62 => (intro w hSw; (try dsimp only at hSw); go_simp; try with_reducible rfl))
            simp only [Act.put, List.getElem_toArray, List.getElem_cons_succ, List.getElem_cons_zero, List.setIfInBounds_toArray, List.set_cons_zero, List.set_cons_succ]
            refine wpAnyH_ready (rs := [11]) (by kernel_rfl) (by simp) ?_
            refine AllReadyH.cons rfl (fun K hK => ?_) (AllReadyH.nil)
            have r0 := HR.out.at_ 0 rfl
            have r1 := HR.out.at_ 1 rfl
            have f0 := HR.out.soft 0
            have f1 := HR.out.soft 1
            go_simp
            refine hK.out _ _ trivial (fun _ => ?_)
            clear hK K
            try simp only [Act.put, List.getElem_toArray, List.getElem_cons_succ, List.getElem_cons_zero, List.setIfInBounds_toArray, List.set_cons_zero, List.set_cons_succ]
            refine wpAnyH_done (by kernel_rfl) ?_ _
            go_wp2
            refine bodyPost_ret (v := .agg #[.int .i64 z1, .int .i64 z2]) (by simp [results, Tryd.results53, go_sem, *]) rfl ?_
            exact ⟨z1, z2, rfl, (HS.out.setNew (p := ⟨w.heap.size, 0, none⟩) hg _).setNew (p := ⟨w.heap.size, 1, none⟩) hg _, (HB.out.setNew (p := ⟨w.heap.size, 0, none⟩) (Nat.le_refl _) _).setNew (p := ⟨w.heap.size, 1, none⟩) (Nat.le_refl _) _⟩
    · skip
      go_simp
      have hbA : But g (w1.drew) ((w1.drew).alloc (.cells #[.int .i64 (-1), .int .i64 7, .int .i64 8] 2)) := (But.refl _ _).alloc _
      have hwl : w.heap.size ≤ (w1.drew).heap.size := HB.out.size
      have HB := Lib.hid (HB.out.trans hbA)
      have HR := Lib.hid (Blk.but HR.out hbA hgr)
      have HT2 := Lib.hid (show Blk ((w1.drew).alloc (.cells #[.int .i64 (-1), .int .i64 7, .int .i64 8] 2)) (w1.heap.size) 2 #[.int .i64 (-1), .int .i64 7, .int .i64 8] from by have h9 := Blk.new (w1.drew) 2 #[.int .i64 (-1), .int .i64 7, .int .i64 8]; (try simp only [World.size_alloc, World.size_drew] at h9); exact h9)
      have HS := Lib.hid (HS.out.alloc (.cells #[.int .i64 (-1), .int .i64 7, .int .i64 8] 2))
      have hnB2 : w1.heap.size ≠ g := by have h9 := hwl; (try simp only [World.size_alloc, World.size_drew] at h9); omega
      refine hK.out _ _ trivial (fun _ => ?_)
      clear hK K hbA hwl
      try simp only [Act.put, List.getElem_toArray, List.getElem_cons_succ, List.getElem_cons_zero, List.setIfInBounds_toArray, List.set_cons_zero, List.set_cons_succ]
      refine wpAnyH_ready (rs := [0, 2]) (by kernel_rfl) (by simp) ?_
      refine AllReadyH.cons rfl (fun K hK => ?_) (AllReadyH.cons rfl (fun K hK => ?_) (AllReadyH.nil))
      · skip
        go_simp
        have hbA : But g ((w1.drew).alloc (.cells #[.int .i64 (-1), .int .i64 7, .int .i64 8] 2)) (((w1.drew).alloc (.cells #[.int .i64 (-1), .int .i64 7, .int .i64 8] 2)).alloc (.cells #[.int .i64 (-1), .int .i64 3, .int .i64 4] 2)) := (But.refl _ _).alloc _
        have hwl : w.heap.size ≤ ((w1.drew).alloc (.cells #[.int .i64 (-1), .int .i64 7, .int .i64 8] 2)).heap.size := HB.out.size
        have HB := Lib.hid (HB.out.trans hbA)
        have HR := Lib.hid (Blk.but HR.out hbA hgr)
        have HT2 := Lib.hid (Blk.but HT2.out hbA (by exact hnB2))
        have HT1 := Lib.hid (show Blk (((w1.drew).alloc (.cells #[.int .i64 (-1), .int .i64 7, .int .i64 8] 2)).alloc (.cells #[.int .i64 (-1), .int .i64 3, .int .i64 4] 2)) (w1.heap.size + 1) 2 #[.int .i64 (-1), .int .i64 3, .int .i64 4] from by have h9 := Blk.new ((w1.drew).alloc (.cells #[.int .i64 (-1), .int .i64 7, .int .i64 8] 2)) 2 #[.int .i64 (-1), .int .i64 3, .int .i64 4]; (try simp only [World.size_alloc, World.size_drew] at h9); exact h9)
        have HS := Lib.hid (HS.out.alloc (.cells #[.int .i64 (-1), .int .i64 3, .int .i64 4] 2))
        have hnB1 : w1.heap.size + 1 ≠ g := by have h9 := hwl; (try simp only [World.size_alloc, World.size_drew] at h9); omega
        refine hK.out _ _ trivial (fun _ => ?_)
        clear hK K hbA hwl
        try simp only [Act.put, List.getElem_toArray, List.getElem_cons_succ, List.getElem_cons_zero, List.setIfInBounds_toArray, List.set_cons_zero, List.set_cons_succ]
        refine wpAnyH_ready (rs := [2]) (by kernel_rfl) (by simp) ?_
        refine AllReadyH.cons rfl (fun K hK => ?_) (AllReadyH.nil)
        go_simp
        go_at_call 51
        refine (n_any g b len cap 3 _ HS.out (by omega)).mono ?_
        rintro e v20 ⟨q1, rfl, hq0, hq1, hs, hb⟩
        obtain ⟨k1, z1, rfl, hk1, hz1⟩ := tab3 (a := (-1)) (b := 3) (c := 4) hq0 hq1
        have hp1 : (0 : Int) ≤ (k1 : Int) := Int.natCast_nonneg _
        have hu1 : (k1 : Int) < 3 := by omega
        have HZ1 := Lib.hid hz1
        have HB := Lib.hid (HB.out.trans hb)
        have HR := Lib.hid (Blk.but HR.out hb hgr)
        have HT1 := Lib.hid (Blk.but HT1.out hb (by exact hnB1))
        have HT2 := Lib.hid (Blk.but HT2.out hb (by exact hnB2))
        have HS := Lib.hid hs
        refine hK.out _ _ trivial (fun _ => ?_)
        clear hK K hs hb hq0 hq1 hz1
        try simp only [Act.put, List.getElem_toArray, List.getElem_cons_succ, List.getElem_cons_zero, List.setIfInBounds_toArray, List.set_cons_zero, List.set_cons_succ]
        (refine wpAnyH_take (i := 3) (v := ?hv63) rfl (by kernel_rfl) (by kernel_rfl) (by kernel_rfl) (fun _ _ _ h => h) (Or.inl ⟨by kernel_rfl, ?hy63⟩) hHeld ?hr63; case hy63 => (intro w hSw; (try dsimp only at hSw); go_simp; try with_reducible rfl))
        simp only [Act.put, List.getElem_toArray, List.getElem_cons_succ, List.getElem_cons_zero, List.setIfInBounds_toArray, List.set_cons_zero, List.set_cons_succ]
        refine wpAnyH_ready (rs := [4, 7]) (by kernel_rfl) (by simp) ?_
        refine AllReadyH.cons rfl (fun K hK => ?_) (AllReadyH.cons rfl (fun K hK => ?_) (AllReadyH.nil))
        · skip
          have cl : (v20).cell? ⟨w1.heap.size + 1, k1, none⟩ = some (.int .i64 z1) := HT1.out.at_ k1 HZ1.out
          go_simp
          refine hK.out _ _ trivial (fun _ => ?_)
          clear hK K cl
          try simp only [Act.put, List.getElem_toArray, List.getElem_cons_succ, List.getElem_cons_zero, List.setIfInBounds_toArray, List.set_cons_zero, List.set_cons_succ]
          refine wpAnyH_ready (rs := [7]) (by kernel_rfl) (by simp) ?_
          refine AllReadyH.cons rfl (fun K hK => ?_) (AllReadyH.nil)
          go_simp
          go_at_call 51
          refine (n_any g b len cap 3 _ HS.out (by omega)).mono ?_
          rintro e v21 ⟨q2, rfl, hq0, hq1, hs, hb⟩
          obtain ⟨k2, z2, rfl, hk2, hz2⟩ := tab3 (a := (-1)) (b := 7) (c := 8) hq0 hq1
          have hp2 : (0 : Int) ≤ (k2 : Int) := Int.natCast_nonneg _
          have hu2 : (k2 : Int) < 3 := by omega
          have HZ2 := Lib.hid hz2
          have HB := Lib.hid (HB.out.trans hb)
          have HR := Lib.hid (Blk.but HR.out hb hgr)
          have HT1 := Lib.hid (Blk.but HT1.out hb (by exact hnB1))
          have HT2 := Lib.hid (Blk.but HT2.out hb (by exact hnB2))
          have HS := Lib.hid hs
          refine hK.out _ _ trivial (fun _ => ?_)
          clear hK K hs hb hq0 hq1 hz2
          try simp only [Act.put, List.getElem_toArray, List.getElem_cons_succ, List.getElem_cons_zero, List.setIfInBounds_toArray, List.set_cons_zero, List.set_cons_succ]
          (refine wpAnyH_take (i := 8) (v := ?hv64) rfl (by kernel_rfl) (by kernel_rfl) (by kernel_rfl) (fun _ _ _ h => h) (Or.inl ⟨by kernel_rfl, ?hy64⟩) hHeld ?hr64; case hy64 => (intro w hSw; (try dsimp only at hSw); go_simp; try with_reducible rfl))
          simp only [Act.put, List.getElem_toArray, List.getElem_cons_succ, List.getElem_cons_zero, List.setIfInBounds_toArray, List.set_cons_zero, List.set_cons_succ]
          refine wpAnyH_ready (rs := [9]) (by kernel_rfl) (by simp) ?_
          refine AllReadyH.cons rfl (fun K hK => ?_) (AllReadyH.nil)
          have cl : (v21).cell? ⟨w1.heap.size, k2, none⟩ = some (.int .i64 z2) := HT2.out.at_ k2 HZ2.out
          go_simp
          refine hK.out _ _ trivial (fun _ => ?_)
          clear hK K cl
          try simp only [Act.put, List.getElem_toArray, List.getElem_cons_succ, List.getElem_cons_zero, List.setIfInBounds_toArray, List.set_cons_zero, List.set_cons_succ]
          (refine wpAnyH_take (i := 10) (v := ?hv65) rfl (by kernel_rfl) (by kernel_rfl) (by kernel_rfl) (fun _ _ _ h => h) (Or.inl ⟨by kernel_rfl, ?hy65⟩) hHeld ?hr65; case hy65 => (intro w hSw; (try dsimp only at hSw); go_simp; try with_reducible rfl))
          simp only [Act.put, List.getElem_toArray, List.getElem_cons_succ, List.getElem_cons_zero, List.setIfInBounds_toArray, List.set_cons_zero, List.set_cons_succ]
          refine wpAnyH_ready (rs := [11]) (by kernel_rfl) (by simp) ?_
          refine AllReadyH.cons rfl (fun K hK => ?_) (AllReadyH.nil)
          have r0 := HR.out.at_ 0 rfl
          have r1 := HR.out.at_ 1 rfl
          have f0 := HR.out.soft 0
          have f1 := HR.out.soft 1
          go_simp
          refine hK.out _ _ trivial (fun _ => ?_)
          clear hK K
          try simp only [Act.put, List.getElem_toArray, List.getElem_cons_succ, List.getElem_cons_zero, List.setIfInBounds_toArray, List.set_cons_zero, List.set_cons_succ]
          refine wpAnyH_done (by kernel_rfl) ?_ _
          go_wp2
          refine bodyPost_ret (v := .agg #[.int .i64 z1, .int .i64 z2]) (by simp [results, Tryd.results53, go_sem, *]) rfl ?_
          exact ⟨z1, z2, rfl, (HS.out.setNew (p := ⟨w.heap.size, 0, none⟩) hg _).setNew (p := ⟨w.heap.size, 1, none⟩) hg _, (HB.out.setNew (p := ⟨w.heap.size, 0, none⟩) (Nat.le_refl _) _).setNew (p := ⟨w.heap.size, 1, none⟩) (Nat.le_refl _) _⟩
        · skip
          go_simp
          go_at_call 51
          refine (n_any g b len cap 3 _ HS.out (by omega)).mono ?_
          rintro e v22 ⟨q2, rfl, hq0, hq1, hs, hb⟩
          obtain ⟨k2, z2, rfl, hk2, hz2⟩ := tab3 (a := (-1)) (b := 7) (c := 8) hq0 hq1
          have hp2 : (0 : Int) ≤ (k2 : Int) := Int.natCast_nonneg _
          have hu2 : (k2 : Int) < 3 := by omega
          have HZ2 := Lib.hid hz2
          have HB := Lib.hid (HB.out.trans hb)
          have HR := Lib.hid (Blk.but HR.out hb hgr)
          have HT1 := Lib.hid (Blk.but HT1.out hb (by exact hnB1))
          have HT2 := Lib.hid (Blk.but HT2.out hb (by exact hnB2))
          have HS := Lib.hid hs
          refine hK.out _ _ trivial (fun _ => ?_)
          clear hK K hs hb hq0 hq1 hz2
          try simp only [Act.put, List.getElem_toArray, List.getElem_cons_succ, List.getElem_cons_zero, List.setIfInBounds_toArray, List.set_cons_zero, List.set_cons_succ]
          (refine wpAnyH_take (i := 8) (v := ?hv66) rfl (by kernel_rfl) (by kernel_rfl) (by kernel_rfl) (fun _ _ _ h => h) (Or.inl ⟨by kernel_rfl, ?hy66⟩) hHeld ?hr66; case hy66 => (intro w hSw; (try dsimp only at hSw); go_simp; try with_reducible rfl))
          simp only [Act.put, List.getElem_toArray, List.getElem_cons_succ, List.getElem_cons_zero, List.setIfInBounds_toArray, List.set_cons_zero, List.set_cons_succ]
          refine wpAnyH_ready (rs := [4, 9]) (by kernel_rfl) (by simp) ?_
          refine AllReadyH.cons rfl (fun K hK => ?_) (AllReadyH.cons rfl (fun K hK => ?_) (AllReadyH.nil))
          · skip
            have cl : (v22).cell? ⟨w1.heap.size + 1, k1, none⟩ = some (.int .i64 z1) := HT1.out.at_ k1 HZ1.out
            go_simp
            refine hK.out _ _ trivial (fun _ => ?_)
            clear hK K cl
            try simp only [Act.put, List.getElem_toArray, List.getElem_cons_succ, List.getElem_cons_zero, List.setIfInBounds_toArray, List.set_cons_zero, List.set_cons_succ]
            refine wpAnyH_ready (rs := [9]) (by kernel_rfl) (by simp) ?_
            refine AllReadyH.cons rfl (fun K hK => ?_) (AllReadyH.nil)
            have cl : (v22).cell? ⟨w1.heap.size, k2, none⟩ = some (.int .i64 z2) := HT2.out.at_ k2 HZ2.out
            go_simp
            refine hK.out _ _ trivial (fun _ => ?_)
            clear hK K cl
            try simp only [Act.put, List.getElem_toArray, List.getElem_cons_succ, List.getElem_cons_zero, List.setIfInBounds_toArray, List.set_cons_zero, List.set_cons_succ]
            (refine wpAnyH_take (i := 10) (v := ?hv67) rfl (by kernel_rfl) (by kernel_rfl) (by kernel_rfl) (fun _ _ _ h => h) (Or.inl ⟨by kernel_rfl, ?hy67⟩) hHeld ?hr67; case hy67 => (intro w hSw; (try dsimp only at hSw); go_simp; try with_reducible rfl))
            simp only [Act.put, List.getElem_toArray, List.getElem_cons_succ, List.getElem_cons_zero, List.setIfInBounds_toArray, List.set_cons_zero, List.set_cons_succ]
            refine wpAnyH_ready (rs := [11]) (by kernel_rfl) (by simp) ?_
            refine AllReadyH.cons rfl (fun K hK => ?_) (AllReadyH.nil)
            have r0 := HR.out.at_ 0 rfl
            have r1 := HR.out.at_ 1 rfl
            have f0 := HR.out.soft 0
            have f1 := HR.out.soft 1
            go_simp
            refine hK.out _ _ trivial (fun _ => ?_)
            clear hK K
            try simp only [Act.put, List.getElem_toArray, List.getElem_cons_succ, List.getElem_cons_zero, List.setIfInBounds_toArray, List.set_cons_zero, List.set_cons_succ]
            refine wpAnyH_done (by kernel_rfl) ?_ _
            go_wp2
            refine bodyPost_ret (v := .agg #[.int .i64 z1, .int .i64 z2]) (by simp [results, Tryd.results53, go_sem, *]) rfl ?_
            exact ⟨z1, z2, rfl, (HS.out.setNew (p := ⟨w.heap.size, 0, none⟩) hg _).setNew (p := ⟨w.heap.size, 1, none⟩) hg _, (HB.out.setNew (p := ⟨w.heap.size, 0, none⟩) (Nat.le_refl _) _).setNew (p := ⟨w.heap.size, 1, none⟩) (Nat.le_refl _) _⟩
          · skip
            have cl : (v22).cell? ⟨w1.heap.size, k2, none⟩ = some (.int .i64 z2) := HT2.out.at_ k2 HZ2.out
            go_simp
            refine hK.out _ _ trivial (fun _ => ?_)
            clear hK K cl
            try simp only [Act.put, List.getElem_toArray, List.getElem_cons_succ, List.getElem_cons_zero, List.setIfInBounds_toArray, List.set_cons_zero, List.set_cons_succ]
            refine wpAnyH_ready (rs := [4]) (by kernel_rfl) (by simp) ?_
            refine AllReadyH.cons rfl (fun K hK => ?_) (AllReadyH.nil)
            have cl : (v22).cell? ⟨w1.heap.size + 1, k1, none⟩ = some (.int .i64 z1) := HT1.out.at_ k1 HZ1.out
            go_simp
            refine hK.out _ _ trivial (fun _ => ?_)
            clear hK K cl
            try simp only [Act.put, List.getElem_toArray, List.getElem_cons_succ, List.getElem_cons_zero, List.setIfInBounds_toArray, List.set_cons_zero, List.set_cons_succ]
            (refine wpAnyH_take (i := 10) (v := ?hv68) rfl (by kernel_rfl) (by kernel_rfl) (by kernel_rfl) (fun _ _ _ h => h) (Or.inl ⟨by kernel_rfl, ?hy68⟩) hHeld ?hr68; case hy68 => (intro w hSw; (try dsimp only at hSw); go_simp; try with_reducible rfl))
            simp only [Act.put, List.getElem_toArray, List.getElem_cons_succ, List.getElem_cons_zero, List.setIfInBounds_toArray, List.set_cons_zero, List.set_cons_succ]
            refine wpAnyH_ready (rs := [11]) (by kernel_rfl) (by simp) ?_
            refine AllReadyH.cons rfl (fun K hK => ?_) (AllReadyH.nil)
            have r0 := HR.out.at_ 0 rfl
            have r1 := HR.out.at_ 1 rfl
            have f0 := HR.out.soft 0
            have f1 := HR.out.soft 1
            go_simp
            refine hK.out _ _ trivial (fun _ => ?_)
            clear hK K
            try simp only [Act.put, List.getElem_toArray, List.getElem_cons_succ, List.getElem_cons_zero, List.setIfInBounds_toArray, List.set_cons_zero, List.set_cons_succ]
            refine wpAnyH_done (by kernel_rfl) ?_ _
            go_wp2
            refine bodyPost_ret (v := .agg #[.int .i64 z1, .int .i64 z2]) (by simp [results, Tryd.results53, go_sem, *]) rfl ?_
            exact ⟨z1, z2, rfl, (HS.out.setNew (p := ⟨w.heap.size, 0, none⟩) hg _).setNew (p := ⟨w.heap.size, 1, none⟩) hg _, (HB.out.setNew (p := ⟨w.heap.size, 0, none⟩) (Nat.le_refl _) _).setNew (p := ⟨w.heap.size, 1, none⟩) (Nat.le_refl _) _⟩
      · skip
        go_simp
        go_at_call 51
        refine (n_any g b len cap 3 _ HS.out (by omega)).mono ?_
        rintro e v23 ⟨q1, rfl, hq0, hq1, hs, hb⟩
        obtain ⟨k1, z1, rfl, hk1, hz1⟩ := tab3 (a := (-1)) (b := 3) (c := 4) hq0 hq1
        have hp1 : (0 : Int) ≤ (k1 : Int) := Int.natCast_nonneg _
        have hu1 : (k1 : Int) < 3 := by omega
        have HZ1 := Lib.hid hz1
        have HB := Lib.hid (HB.out.trans hb)
        have HR := Lib.hid (Blk.but HR.out hb hgr)
        have HT2 := Lib.hid (Blk.but HT2.out hb (by exact hnB2))
        have HS := Lib.hid hs
        refine hK.out _ _ trivial (fun _ => ?_)
        clear hK K hs hb hq0 hq1 hz1
        try simp only [Act.put, List.getElem_toArray, List.getElem_cons_succ, List.getElem_cons_zero, List.setIfInBounds_toArray, List.set_cons_zero, List.set_cons_succ]
        refine wpAnyH_ready (rs := [0, 7]) (by kernel_rfl) (by simp) ?_
        refine AllReadyH.cons rfl (fun K hK => ?_) (AllReadyH.cons rfl (fun K hK => ?_) (AllReadyH.nil))
        · skip
          go_simp
          have hbA : But g (v23) (v23.alloc (.cells #[.int .i64 (-1), .int .i64 3, .int .i64 4] 2)) := (But.refl _ _).alloc _
          have hwl : w.heap.size ≤ (v23).heap.size := HB.out.size
          have HB := Lib.hid (HB.out.trans hbA)
          have HR := Lib.hid (Blk.but HR.out hbA hgr)
          have HT2 := Lib.hid (Blk.but HT2.out hbA (by exact hnB2))
          have HT1 := Lib.hid (show Blk (v23.alloc (.cells #[.int .i64 (-1), .int .i64 3, .int .i64 4] 2)) (v23.heap.size) 2 #[.int .i64 (-1), .int .i64 3, .int .i64 4] from by have h9 := Blk.new (v23) 2 #[.int .i64 (-1), .int .i64 3, .int .i64 4]; (try simp only [World.size_alloc, World.size_drew] at h9); exact h9)
          have HS := Lib.hid (HS.out.alloc (.cells #[.int .i64 (-1), .int .i64 3, .int .i64 4] 2))
          have hnB1 : v23.heap.size ≠ g := by have h9 := hwl; (try simp only [World.size_alloc, World.size_drew] at h9); omega
          refine hK.out _ _ trivial (fun _ => ?_)
          clear hK K hbA hwl
          try simp only [Act.put, List.getElem_toArray, List.getElem_cons_succ, List.getElem_cons_zero, List.setIfInBounds_toArray, List.set_cons_zero, List.set_cons_succ]
          (refine wpAnyH_take (i := 3) (v := ?hv69) rfl (by kernel_rfl) (by kernel_rfl) (by kernel_rfl) (fun _ _ _ h => h) (Or.inl ⟨by kernel_rfl, ?hy69⟩) hHeld ?hr69; case hy69 => (intro w hSw; (try dsimp only at hSw); go_simp; try with_reducible rfl))
          simp only [Act.put, List.getElem_toArray, List.getElem_cons_succ, List.getElem_cons_zero, List.setIfInBounds_toArray, List.set_cons_zero, List.set_cons_succ]
          refine wpAnyH_ready (rs := [4, 7]) (by kernel_rfl) (by simp) ?_
          refine AllReadyH.cons rfl (fun K hK => ?_) (AllReadyH.cons rfl (fun K hK => ?_) (AllReadyH.nil))
          · skip
            have cl : (v23.alloc (.cells #[.int .i64 (-1), .int .i64 3, .int .i64 4] 2)).cell? ⟨v23.heap.size, k1, none⟩ = some (.int .i64 z1) := HT1.out.at_ k1 HZ1.out
            go_simp
            refine hK.out _ _ trivial (fun _ => ?_)
            clear hK K cl
            try simp only [Act.put, List.getElem_toArray, List.getElem_cons_succ, List.getElem_cons_zero, List.setIfInBounds_toArray, List.set_cons_zero, List.set_cons_succ]
            refine wpAnyH_ready (rs := [7]) (by kernel_rfl) (by simp) ?_
            refine AllReadyH.cons rfl (fun K hK => ?_) (AllReadyH.nil)
            go_simp
            go_at_call 51
            refine (n_any g b len cap 3 _ HS.out (by omega)).mono ?_
            rintro e v24 ⟨q2, rfl, hq0, hq1, hs, hb⟩
            obtain ⟨k2, z2, rfl, hk2, hz2⟩ := tab3 (a := (-1)) (b := 7) (c := 8) hq0 hq1
            have hp2 : (0 : Int) ≤ (k2 : Int) := Int.natCast_nonneg _
            have hu2 : (k2 : Int) < 3 := by omega
            have HZ2 := Lib.hid hz2
            have HB := Lib.hid (HB.out.trans hb)
            have HR := Lib.hid (Blk.but HR.out hb hgr)
            have HT1 := Lib.hid (Blk.but HT1.out hb (by exact hnB1))
            have HT2 := Lib.hid (Blk.but HT2.out hb (by exact hnB2))
            have HS := Lib.hid hs
            refine hK.out _ _ trivial (fun _ => ?_)
            clear hK K hs hb hq0 hq1 hz2
            try simp only [Act.put, List.getElem_toArray, List.getElem_cons_succ, List.getElem_cons_zero, List.setIfInBounds_toArray, List.set_cons_zero, List.set_cons_succ]
            (refine wpAnyH_take (i := 8) (v := ?hv70) rfl (by kernel_rfl) (by kernel_rfl) (by kernel_rfl) (fun _ _ _ h => h) (Or.inl ⟨by kernel_rfl, ?hy70⟩) hHeld ?hr70; case hy70 => (intro w hSw; (try dsimp only at hSw); go_simp; try with_reducible rfl))
            simp only [Act.put, List.getElem_toArray, List.getElem_cons_succ, List.getElem_cons_zero, List.setIfInBounds_toArray, List.set_cons_zero, List.set_cons_succ]
            refine wpAnyH_ready (rs := [9]) (by kernel_rfl) (by simp) ?_
            refine AllReadyH.cons rfl (fun K hK => ?_) (AllReadyH.nil)
            have cl : (v24).cell? ⟨w1.heap.size, k2, none⟩ = some (.int .i64 z2) := HT2.out.at_ k2 HZ2.out
            go_simp
            refine hK.out _ _ trivial (fun _ => ?_)
            clear hK K cl
            try simp only [Act.put, List.getElem_toArray, List.getElem_cons_succ, List.getElem_cons_zero, List.setIfInBounds_toArray, List.set_cons_zero, List.set_cons_succ]
            (refine wpAnyH_take (i := 10) (v := ?hv71) rfl (by kernel_rfl) (by kernel_rfl) (by kernel_rfl) (fun _ _ _ h => h) (Or.inl ⟨by kernel_rfl, ?hy71⟩) hHeld ?hr71; case hy71 => (intro w hSw; (try dsimp only at hSw); go_simp; try with_reducible rfl))
            simp only [Act.put, List.getElem_toArray, List.getElem_cons_succ, List.getElem_cons_zero, List.setIfInBounds_toArray, List.set_cons_zero, List.set_cons_succ]
            refine wpAnyH_ready (rs := [11]) (by kernel_rfl) (by simp) ?_
            refine AllReadyH.cons rfl (fun K hK => ?_) (AllReadyH.nil)
            have r0 := HR.out.at_ 0 rfl
            have r1 := HR.out.at_ 1 rfl
            have f0 := HR.out.soft 0
            have f1 := HR.out.soft 1
            go_simp
            refine hK.out _ _ trivial (fun _ => ?_)
            clear hK K
            try simp only [Act.put, List.getElem_toArray, List.getElem_cons_succ, List.getElem_cons_zero, List.setIfInBounds_toArray, List.set_cons_zero, List.set_cons_succ]
            refine wpAnyH_done (by kernel_rfl) ?_ _
            go_wp2
            refine bodyPost_ret (v := .agg #[.int .i64 z1, .int .i64 z2]) (by simp [results, Tryd.results53, go_sem, *]) rfl ?_
            exact ⟨z1, z2, rfl, (HS.out.setNew (p := ⟨w.heap.size, 0, none⟩) hg _).setNew (p := ⟨w.heap.size, 1, none⟩) hg _, (HB.out.setNew (p := ⟨w.heap.size, 0, none⟩) (Nat.le_refl _) _).setNew (p := ⟨w.heap.size, 1, none⟩) (Nat.le_refl _) _⟩
          · skip
            go_simp
            go_at_call 51
            refine (n_any g b len cap 3 _ HS.out (by omega)).mono ?_
            rintro e v25 ⟨q2, rfl, hq0, hq1, hs, hb⟩
            obtain ⟨k2, z2, rfl, hk2, hz2⟩ := tab3 (a := (-1)) (b := 7) (c := 8) hq0 hq1
            have hp2 : (0 : Int) ≤ (k2 : Int) := Int.natCast_nonneg _
            have hu2 : (k2 : Int) < 3 := by omega
            have HZ2 := Lib.hid hz2
            have HB := Lib.hid (HB.out.trans hb)
            have HR := Lib.hid (Blk.but HR.out hb hgr)
            have HT1 := Lib.hid (Blk.but HT1.out hb (by exact hnB1))
            have HT2 := Lib.hid (Blk.but HT2.out hb (by exact hnB2))
            have HS := Lib.hid hs
            refine hK.out _ _ trivial (fun _ => ?_)
            clear hK K hs hb hq0 hq1 hz2
            try simp only [Act.put, List.getElem_toArray, List.getElem_cons_succ, List.getElem_cons_zero, List.setIfInBounds_toArray, List.set_cons_zero, List.set_cons_succ]
            (refine wpAnyH_take (i := 8) (v := ?hv72) rfl (by kernel_rfl) (by kernel_rfl) (by kernel_rfl) (fun _ _ _ h => h) (Or.inl ⟨by kernel_rfl, ?hy72⟩) hHeld ?hr72; case hy72 => (intro w hSw; (try dsimp only at hSw); go_simp; try with_reducible rfl))
            simp only [Act.put, List.getElem_toArray, List.getElem_cons_succ, List.getElem_cons_zero, List.setIfInBounds_toArray, List.set_cons_zero, List.set_cons_succ]
            refine wpAnyH_ready (rs := [4, 9]) (by kernel_rfl) (by simp) ?_
            refine AllReadyH.cons rfl (fun K hK => ?_) (AllReadyH.cons rfl (fun K hK => ?_) (AllReadyH.nil))
            · skip
              have cl : (v25).cell? ⟨v23.heap.size, k1, none⟩ = some (.int .i64 z1) := HT1.out.at_ k1 HZ1.out
              go_simp
              refine hK.out _ _ trivial (fun _ => ?_)
              clear hK K cl
              try simp only [Act.put, List.getElem_toArray, List.getElem_cons_succ, List.getElem_cons_zero, List.setIfInBounds_toArray, List.set_cons_zero, List.set_cons_succ]
              refine wpAnyH_ready (rs := [9]) (by kernel_rfl) (by simp) ?_
              refine AllReadyH.cons rfl (fun K hK => ?_) (AllReadyH.nil)
              have cl : (v25).cell? ⟨w1.heap.size, k2, none⟩ = some (.int .i64 z2) := HT2.out.at_ k2 HZ2.out
              go_simp
              refine hK.out _ _ trivial (fun _ => ?_)
              clear hK K cl
              try simp only [Act.put, List.getElem_toArray, List.getElem_cons_succ, List.getElem_cons_zero, List.setIfInBounds_toArray, List.set_cons_zero, List.set_cons_succ]
              (refine wpAnyH_take (i := 10) (v := ?hv73) rfl (by kernel_rfl) (by kernel_rfl) (by kernel_rfl) (fun _ _ _ h => h) (Or.inl ⟨by kernel_rfl, ?hy73⟩) hHeld ?hr73; case hy73 => (intro w hSw; (try dsimp only at hSw); go_simp; try with_reducible rfl))
              simp only [Act.put, List.getElem_toArray, List.getElem_cons_succ, List.getElem_cons_zero, List.setIfInBounds_toArray, List.set_cons_zero, List.set_cons_succ]
              refine wpAnyH_ready (rs := [11]) (by kernel_rfl) (by simp) ?_
              refine AllReadyH.cons rfl (fun K hK => ?_) (AllReadyH.nil)
              have r0 := HR.out.at_ 0 rfl
              have r1 := HR.out.at_ 1 rfl
              have f0 := HR.out.soft 0
              have f1 := HR.out.soft 1
              go_simp
              refine hK.out _ _ trivial (fun _ => ?_)
              clear hK K
              try simp only [Act.put, List.getElem_toArray, List.getElem_cons_succ, List.getElem_cons_zero, List.setIfInBounds_toArray, List.set_cons_zero, List.set_cons_succ]
              refine wpAnyH_done (by kernel_rfl) ?_ _
              go_wp2
              refine bodyPost_ret (v := .agg #[.int .i64 z1, .int .i64 z2]) (by simp [results, Tryd.results53, go_sem, *]) rfl ?_
              exact ⟨z1, z2, rfl, (HS.out.setNew (p := ⟨w.heap.size, 0, none⟩) hg _).setNew (p := ⟨w.heap.size, 1, none⟩) hg _, (HB.out.setNew (p := ⟨w.heap.size, 0, none⟩) (Nat.le_refl _) _).setNew (p := ⟨w.heap.size, 1, none⟩) (Nat.le_refl _) _⟩
            · skip
              have cl : (v25).cell? ⟨w1.heap.size, k2, none⟩ = some (.int .i64 z2) := HT2.out.at_ k2 HZ2.out
              go_simp
              refine hK.out _ _ trivial (fun _ => ?_)
              clear hK K cl
              try simp only [Act.put, List.getElem_toArray, List.getElem_cons_succ, List.getElem_cons_zero, List.setIfInBounds_toArray, List.set_cons_zero, List.set_cons_succ]
              refine wpAnyH_ready (rs := [4]) (by kernel_rfl) (by simp) ?_
              refine AllReadyH.cons rfl (fun K hK => ?_) (AllReadyH.nil)
              have cl : (v25).cell? ⟨v23.heap.size, k1, none⟩ = some (.int .i64 z1) := HT1.out.at_ k1 HZ1.out
              go_simp
              refine hK.out _ _ trivial (fun _ => ?_)
              clear hK K cl
              try simp only [Act.put, List.getElem_toArray, List.getElem_cons_succ, List.getElem_cons_zero, List.setIfInBounds_toArray, List.set_cons_zero, List.set_cons_succ]
              (refine wpAnyH_take (i := 10) (v := ?hv74) rfl (by kernel_rfl) (by kernel_rfl) (by kernel_rfl) (fun _ _ _ h => h) (Or.inl ⟨by kernel_rfl, ?hy74⟩) hHeld ?hr74; case hy74 => (intro w hSw; (try dsimp only at hSw); go_simp; try with_reducible rfl))
              simp only [Act.put, List.getElem_toArray, List.getElem_cons_succ, List.getElem_cons_zero, List.setIfInBounds_toArray, List.set_cons_zero, List.set_cons_succ]
              refine wpAnyH_ready (rs := [11]) (by kernel_rfl) (by simp) ?_
              refine AllReadyH.cons rfl (fun K hK => ?_) (AllReadyH.nil)
              have r0 := HR.out.at_ 0 rfl
              have r1 := HR.out.at_ 1 rfl
              have f0 := HR.out.soft 0
              have f1 := HR.out.soft 1
              go_simp
              refine hK.out _ _ trivial (fun _ => ?_)
              clear hK K
              try simp only [Act.put, List.getElem_toArray, List.getElem_cons_succ, List.getElem_cons_zero, List.setIfInBounds_toArray, List.set_cons_zero, List.set_cons_succ]
              refine wpAnyH_done (by kernel_rfl) ?_ _
              go_wp2
              refine bodyPost_ret (v := .agg #[.int .i64 z1, .int .i64 z2]) (by simp [results, Tryd.results53, go_sem, *]) rfl ?_
              exact ⟨z1, z2, rfl, (HS.out.setNew (p := ⟨w.heap.size, 0, none⟩) hg _).setNew (p := ⟨w.heap.size, 1, none⟩) hg _, (HB.out.setNew (p := ⟨w.heap.size, 0, none⟩) (Nat.le_refl _) _).setNew (p := ⟨w.heap.size, 1, none⟩) (Nat.le_refl _) _⟩
        · skip
          go_simp
          go_at_call 51
          refine (n_any g b len cap 3 _ HS.out (by omega)).mono ?_
          rintro e v26 ⟨q2, rfl, hq0, hq1, hs, hb⟩
          obtain ⟨k2, z2, rfl, hk2, hz2⟩ := tab3 (a := (-1)) (b := 7) (c := 8) hq0 hq1
          have hp2 : (0 : Int) ≤ (k2 : Int) := Int.natCast_nonneg _
          have hu2 : (k2 : Int) < 3 := by omega
          have HZ2 := Lib.hid hz2
          have HB := Lib.hid (HB.out.trans hb)
          have HR := Lib.hid (Blk.but HR.out hb hgr)
          have HT2 := Lib.hid (Blk.but HT2.out hb (by exact hnB2))
          have HS := Lib.hid hs
          refine hK.out _ _ trivial (fun _ => ?_)
          clear hK K hs hb hq0 hq1 hz2
          try simp only [Act.put, List.getElem_toArray, List.getElem_cons_succ, List.getElem_cons_zero, List.setIfInBounds_toArray, List.set_cons_zero, List.set_cons_succ]
          (refine wpAnyH_take (i := 8) (v := ?hv75) rfl (by kernel_rfl) (by kernel_rfl) (by kernel_rfl) (fun _ _ _ h => h) (Or.inl ⟨by kernel_rfl, ?hy75⟩) hHeld ?hr75; case hy75 => (intro w hSw; (try dsimp only at hSw); go_simp; try with_reducible rfl))
          simp only [Act.put, List.getElem_toArray, List.getElem_cons_succ, List.getElem_cons_zero, List.setIfInBounds_toArray, List.set_cons_zero, List.set_cons_succ]
          refine wpAnyH_ready (rs := [0, 9]) (by kernel_rfl) (by simp) ?_
          refine AllReadyH.cons rfl (fun K hK => ?_) (AllReadyH.cons rfl (fun K hK => ?_) (AllReadyH.nil))
          · skip
            go_simp
            have hbA : But g (v26) (v26.alloc (.cells #[.int .i64 (-1), .int .i64 3, .int .i64 4] 2)) := (But.refl _ _).alloc _
            have hwl : w.heap.size ≤ (v26).heap.size := HB.out.size
            have HB := Lib.hid (HB.out.trans hbA)
            have HR := Lib.hid (Blk.but HR.out hbA hgr)
            have HT2 := Lib.hid (Blk.but HT2.out hbA (by exact hnB2))
            have HT1 := Lib.hid (show Blk (v26.alloc (.cells #[.int .i64 (-1), .int .i64 3, .int .i64 4] 2)) (v26.heap.size) 2 #[.int .i64 (-1), .int .i64 3, .int .i64 4] from by have h9 := Blk.new (v26) 2 #[.int .i64 (-1), .int .i64 3, .int .i64 4]; (try simp only [World.size_alloc, World.size_drew] at h9); exact h9)
            have HS := Lib.hid (HS.out.alloc (.cells #[.int .i64 (-1), .int .i64 3, .int .i64 4] 2))
            have hnB1 : v26.heap.size ≠ g := by have h9 := hwl; (try simp only [World.size_alloc, World.size_drew] at h9); omega
            refine hK.out _ _ trivial (fun _ => ?_)
            clear hK K hbA hwl
            try simp only [Act.put, List.getElem_toArray, List.getElem_cons_succ, List.getElem_cons_zero, List.setIfInBounds_toArray, List.set_cons_zero, List.set_cons_succ]
            (refine wpAnyH_take (i := 3) (v := ?hv76) rfl (by kernel_rfl) (by kernel_rfl) (by kernel_rfl) (fun _ _ _ h => h) (Or.inl ⟨by kernel_rfl, ?hy76⟩) hHeld ?hr76; case hy76 => (intro w hSw; (try dsimp only at hSw); go_simp; try with_reducible rfl))
            simp only [Act.put, List.getElem_toArray, List.getElem_cons_succ, List.getElem_cons_zero, List.setIfInBounds_toArray, List.set_cons_zero, List.set_cons_succ]
            refine wpAnyH_ready (rs := [4, 9]) (by kernel_rfl) (by simp) ?_
            refine AllReadyH.cons rfl (fun K hK => ?_) (AllReadyH.cons rfl (fun K hK => ?_) (AllReadyH.nil))
            · skip
              have cl : (v26.alloc (.cells #[.int .i64 (-1), .int .i64 3, .int .i64 4] 2)).cell? ⟨v26.heap.size, k1, none⟩ = some (.int .i64 z1) := HT1.out.at_ k1 HZ1.out
              go_simp
              refine hK.out _ _ trivial (fun _ => ?_)
              clear hK K cl
              try simp only [Act.put, List.getElem_toArray, List.getElem_cons_succ, List.getElem_cons_zero, List.setIfInBounds_toArray, List.set_cons_zero, List.set_cons_succ]
              refine wpAnyH_ready (rs := [9]) (by kernel_rfl) (by simp) ?_
              refine AllReadyH.cons rfl (fun K hK => ?_) (AllReadyH.nil)
              have cl : (v26.alloc (.cells #[.int .i64 (-1), .int .i64 3, .int .i64 4] 2)).cell? ⟨w1.heap.size, k2, none⟩ = some (.int .i64 z2) := HT2.out.at_ k2 HZ2.out
              go_simp
              refine hK.out _ _ trivial (fun _ => ?_)
              clear hK K cl
              try simp only [Act.put, List.getElem_toArray, List.getElem_cons_succ, List.getElem_cons_zero, List.setIfInBounds_toArray, List.set_cons_zero, List.set_cons_succ]
              (refine wpAnyH_take (i := 10) (v := ?hv77) rfl (by kernel_rfl) (by kernel_rfl) (by kernel_rfl) (fun _ _ _ h => h) (Or.inl ⟨by kernel_rfl, ?hy77⟩) hHeld ?hr77; case hy77 => (intro w hSw; (try dsimp only at hSw); go_simp; try with_reducible rfl))
              simp only [Act.put, List.getElem_toArray, List.getElem_cons_succ, List.getElem_cons_zero, List.setIfInBounds_toArray, List.set_cons_zero, List.set_cons_succ]
              refine wpAnyH_ready (rs := [11]) (by kernel_rfl) (by simp) ?_
              refine AllReadyH.cons rfl (fun K hK => ?_) (AllReadyH.nil)
              have r0 := HR.out.at_ 0 rfl
              have r1 := HR.out.at_ 1 rfl
              have f0 := HR.out.soft 0
              have f1 := HR.out.soft 1
              go_simp
              refine hK.out _ _ trivial (fun _ => ?_)
              clear hK K
              try simp only [Act.put, List.getElem_toArray, List.getElem_cons_succ, List.getElem_cons_zero, List.setIfInBounds_toArray, List.set_cons_zero, List.set_cons_succ]
              refine wpAnyH_done (by kernel_rfl) ?_ _
              go_wp2
              refine bodyPost_ret (v := .agg #[.int .i64 z1, .int .i64 z2]) (by simp [results, Tryd.results53, go_sem, *]) rfl ?_
              exact ⟨z1, z2, rfl, (HS.out.setNew (p := ⟨w.heap.size, 0, none⟩) hg _).setNew (p := ⟨w.heap.size, 1, none⟩) hg _, (HB.out.setNew (p := ⟨w.heap.size, 0, none⟩) (Nat.le_refl _) _).setNew (p := ⟨w.heap.size, 1, none⟩) (Nat.le_refl _) _⟩
            · skip
              have cl : (v26.alloc (.cells #[.int .i64 (-1), .int .i64 3, .int .i64 4] 2)).cell? ⟨w1.heap.size, k2, none⟩ = some (.int .i64 z2) := HT2.out.at_ k2 HZ2.out
              go_simp
              refine hK.out _ _ trivial (fun _ => ?_)
              clear hK K cl
              try simp only [Act.put, List.getElem_toArray, List.getElem_cons_succ, List.getElem_cons_zero, List.setIfInBounds_toArray, List.set_cons_zero, List.set_cons_succ]
              refine wpAnyH_ready (rs := [4]) (by kernel_rfl) (by simp) ?_
              refine AllReadyH.cons rfl (fun K hK => ?_) (AllReadyH.nil)
              have cl : (v26.alloc (.cells #[.int .i64 (-1), .int .i64 3, .int .i64 4] 2)).cell? ⟨v26.heap.size, k1, none⟩ = some (.int .i64 z1) := HT1.out.at_ k1 HZ1.out
              go_simp
              refine hK.out _ _ trivial (fun _ => ?_)
              clear hK K cl
              try simp only [Act.put, List.getElem_toArray, List.getElem_cons_succ, List.getElem_cons_zero, List.setIfInBounds_toArray, List.set_cons_zero, List.set_cons_succ]
              (refine wpAnyH_take (i := 10) (v := ?hv78) rfl (by kernel_rfl) (by kernel_rfl) (by kernel_rfl) (fun _ _ _ h => h) (Or.inl ⟨by kernel_rfl, ?hy78⟩) hHeld ?hr78; case hy78 => (intro w hSw; (try dsimp only at hSw); go_simp; try with_reducible rfl))
              simp only [Act.put, List.getElem_toArray, List.getElem_cons_succ, List.getElem_cons_zero, List.setIfInBounds_toArray, List.set_cons_zero, List.set_cons_succ]
              refine wpAnyH_ready (rs := [11]) (by kernel_rfl) (by simp) ?_
              refine AllReadyH.cons rfl (fun K hK => ?_) (AllReadyH.nil)
              have r0 := HR.out.at_ 0 rfl
              have r1 := HR.out.at_ 1 rfl
              have f0 := HR.out.soft 0
              have f1 := HR.out.soft 1
              go_simp
              refine hK.out _ _ trivial (fun _ => ?_)
              clear hK K
              try simp only [Act.put, List.getElem_toArray, List.getElem_cons_succ, List.getElem_cons_zero, List.setIfInBounds_toArray, List.set_cons_zero, List.set_cons_succ]
              refine wpAnyH_done (by kernel_rfl) ?_ _
              go_wp2
              refine bodyPost_ret (v := .agg #[.int .i64 z1, .int .i64 z2]) (by simp [results, Tryd.results53, go_sem, *]) rfl ?_
              exact ⟨z1, z2, rfl, (HS.out.setNew (p := ⟨w.heap.size, 0, none⟩) hg _).setNew (p := ⟨w.heap.size, 1, none⟩) hg _, (HB.out.setNew (p := ⟨w.heap.size, 0, none⟩) (Nat.le_refl _) _).setNew (p := ⟨w.heap.size, 1, none⟩) (Nat.le_refl _) _⟩
          · skip
            have cl : (v26).cell? ⟨w1.heap.size, k2, none⟩ = some (.int .i64 z2) := HT2.out.at_ k2 HZ2.out
            go_simp
            refine hK.out _ _ trivial (fun _ => ?_)
            clear hK K cl
            try simp only [Act.put, List.getElem_toArray, List.getElem_cons_succ, List.getElem_cons_zero, List.setIfInBounds_toArray, List.set_cons_zero, List.set_cons_succ]
            refine wpAnyH_ready (rs := [0]) (by kernel_rfl) (by simp) ?_
            refine AllReadyH.cons rfl (fun K hK => ?_) (AllReadyH.nil)
            go_simp
            have hbA : But g (v26) (v26.alloc (.cells #[.int .i64 (-1), .int .i64 3, .int .i64 4] 2)) := (But.refl _ _).alloc _
            have hwl : w.heap.size ≤ (v26).heap.size := HB.out.size
            have HB := Lib.hid (HB.out.trans hbA)
            have HR := Lib.hid (Blk.but HR.out hbA hgr)
            have HT2 := Lib.hid (Blk.but HT2.out hbA (by exact hnB2))
            have HT1 := Lib.hid (show Blk (v26.alloc (.cells #[.int .i64 (-1), .int .i64 3, .int .i64 4] 2)) (v26.heap.size) 2 #[.int .i64 (-1), .int .i64 3, .int .i64 4] from by have h9 := Blk.new (v26) 2 #[.int .i64 (-1), .int .i64 3, .int .i64 4]; (try simp only [World.size_alloc, World.size_drew] at h9); exact h9)
            have HS := Lib.hid (HS.out.alloc (.cells #[.int .i64 (-1), .int .i64 3, .int .i64 4] 2))
            have hnB1 : v26.heap.size ≠ g := by have h9 := hwl; (try simp only [World.size_alloc, World.size_drew] at h9); omega
            refine hK.out _ _ trivial (fun _ => ?_)
            clear hK K hbA hwl
            try simp only [Act.put, List.getElem_toArray, List.getElem_cons_succ, List.getElem_cons_zero, List.setIfInBounds_toArray, List.set_cons_zero, List.set_cons_succ]
            (refine wpAnyH_take (i := 3) (v := ?hv79) rfl (by kernel_rfl) (by kernel_rfl) (by kernel_rfl) (fun _ _ _ h => h) (Or.inl ⟨by kernel_rfl, ?hy79⟩) hHeld ?hr79; case hy79 => (intro w hSw; (try dsimp only at hSw); go_simp; try with_reducible rfl))
            simp only [Act.put, List.getElem_toArray, List.getElem_cons_succ, List.getElem_cons_zero, List.setIfInBounds_toArray, List.set_cons_zero, List.set_cons_succ]
            refine wpAnyH_ready (rs := [4]) (by kernel_rfl) (by simp) ?_
            refine AllReadyH.cons rfl (fun K hK => ?_) (AllReadyH.nil)
            have cl : (v26.alloc (.cells #[.int .i64 (-1), .int .i64 3, .int .i64 4] 2)).cell? ⟨v26.heap.size, k1, none⟩ = some (.int .i64 z1) := HT1.out.at_ k1 HZ1.out
            go_simp
            refine hK.out _ _ trivial (fun _ => ?_)
            clear hK K cl
            try simp only [Act.put, List.getElem_toArray, List.getElem_cons_succ, List.getElem_cons_zero, List.setIfInBounds_toArray, List.set_cons_zero, List.set_cons_succ]
            (refine wpAnyH_take (i := 10) (v := ?hv80) rfl (by kernel_rfl) (by kernel_rfl) (by kernel_rfl) (fun _ _ _ h => h) (Or.inl ⟨by kernel_rfl, ?hy80⟩) hHeld ?hr80; case hy80 => (intro w hSw; (try dsimp only at hSw); go_simp; try with_reducible rfl))
            simp only [Act.put, List.getElem_toArray, List.getElem_cons_succ, List.getElem_cons_zero, List.setIfInBounds_toArray, List.set_cons_zero, List.set_cons_succ]
            refine wpAnyH_ready (rs := [11]) (by kernel_rfl) (by simp) ?_
            refine AllReadyH.cons rfl (fun K hK => ?_) (AllReadyH.nil)
            have r0 := HR.out.at_ 0 rfl
            have r1 := HR.out.at_ 1 rfl
            have f0 := HR.out.soft 0
            have f1 := HR.out.soft 1
            go_simp
            refine hK.out _ _ trivial (fun _ => ?_)
            clear hK K
            try simp only [Act.put, List.getElem_toArray, List.getElem_cons_succ, List.getElem_cons_zero, List.setIfInBounds_toArray, List.set_cons_zero, List.set_cons_succ]
            refine wpAnyH_done (by kernel_rfl) ?_ _
            go_wp2
            refine bodyPost_ret (v := .agg #[.int .i64 z1, .int .i64 z2]) (by simp [results, Tryd.results53, go_sem, *]) rfl ?_
            exact ⟨z1, z2, rfl, (HS.out.setNew (p := ⟨w.heap.size, 0, none⟩) hg _).setNew (p := ⟨w.heap.size, 1, none⟩) hg _, (HB.out.setNew (p := ⟨w.heap.size, 0, none⟩) (Nat.le_refl _) _).setNew (p := ⟨w.heap.size, 1, none⟩) (Nat.le_refl _) _⟩
end Go.Proofs.YtdimpopkkjpddaaDoor.DrawC
