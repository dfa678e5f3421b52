/- Of this claim's texts the part 1: LDraw Lab LabJoin Held JobT LApp DeskT Gen DeskG. -/
import Derived.Test.YtphklknaagjmpaaDoorRows
import Derived.WalkKit
import Derived.ProofKit
import Derived.Below
import Derived.LoopTactic
import Derived.BigQuiet
import Derived.Deep.QuietTactic
import Derived.Deep.RegionWith
import Derived.RegionTactic
import Derived.WalkSpells
import Derived.WalkLawsBesides
import Derived.IntWalk
import Derived.Lib.Hide
import Derived.StillTailTactics
import Derived.Test.YtphklknaagjmpaaDoorPk0
section
namespace Go.Proofs.YtphklknaagjmpaaDoor.DrawC
open Go.RowKit RepC
set_option linter.unusedVariables false
set_option linter.unusedSimpArgs false
theorem But.setNew {g : Nat} {a w : World} (h : But g a w) {p : Addr} (hp : a.heap.size ≤ p.block) (u : Value) : But g a (w.setCell p u) :=
  ⟨h.os, h.tape, h.output, by have := h.size; simpa [World.setCell] using this, fun k hk hg => (Below.heap_setCell w p u k (by omega)).trans (h.block k hk hg)⟩
theorem Blk.but {w w' : World} {k g : Nat} {t : TypeId} {cs : Array Value} (h : Blk w k t cs) (hb : But g w w') (hk : k ≠ g) : Blk w' k t cs := (hb.block k h.lt hk).trans h
theorem Src.setNew {g : Nat} {b : Option Addr} {len cap : Nat} {w : World} (h : Src g b len cap w) {p : Addr} (hp : g < p.block) (u : Value) : Src g b len cap (w.setCell p u) := h.mono ((Below.refl _ _).setCell hp u)
def DrawnL (g : Nat) (b : Option Addr) (len cap : Nat) (w : World) (e : Ending) (w' : World) : Prop := ∃ l s : Int, e = .returned (.agg #[.int .i64 l, .int .i64 s]) ∧ Src g b len cap w' ∧ But g w w'
theorem drawnL_elim {g : Nat} {b : Option Addr} {len cap : Nat} {w : World} {e : Ending} {w' : World} (h : DrawnL g b len cap w e w') : ∃ l s : Int, e = .returned (.agg #[.int .i64 l, .int .i64 s]) ∧ Src g b len cap w' ∧ But g w w' := h
theorem tab3 {v a b c : Int} (h0 : 0 ≤ v) (h1 : v < 3 ∨ v = 0) : ∃ (k : Nat) (z : Int), v = (k : Int) ∧ k < 3 ∧ (#[.int .i64 a, .int .i64 b, .int .i64 c] : Array Value)[k]? = some (.int .i64 z) := by
  have : v = 0 ∨ v = 1 ∨ v = 2 := by omega
  rcases this with rfl | rfl | rfl
  · exact ⟨0, a, rfl, by omega, rfl⟩
  · exact ⟨1, b, rfl, by omega, rfl⟩
  · exact ⟨2, c, rfl, by omega, rfl⟩
set_option maxRecDepth 100000 in
set_option maxHeartbeats 4000000 in
theorem label_any (g : Nat) (b : Option Addr) (len cap : Nat) (w : World) (h : Src g b len cap w) :
    Calls Tryd.prog 22 #[.pointer (some ⟨g, 0, none⟩)] w (DrawnL g b len cap w) := by
  have hg := h.lt
  have HS := Lib.hid (h.alloc (.cells #[.int .i64 0, .int .i64 0] 27))
  have HR := Lib.hid (Blk.new w 27 #[.int .i64 0, .int .i64 0])
  have hgr : w.heap.size ≠ g := by omega
  clear h
  go_enter Tryd.func22, Tryd.ntmps22
  go_wp2_with fail
  refine (one_any g b len cap 20 _ HS.out (by omega)).mono ?_
  rintro e w1 ⟨v, rfl, hs, hb⟩
  have HB1 := Lib.hid (((But.refl g w).alloc _).trans hb)
  have HR1 := Lib.hid (Blk.but HR.out hb hgr)
  have HS1 := Lib.hid hs
  have hlt1 := HR1.out.lt
  clear hs hb HS HR
  cases v with
  | false =>
    go_wp2_with fail
    refine (n_any g b len cap 3 _ HS1.out (by omega)).mono ?_
    rintro e w2 ⟨l, rfl, _, _, hs, hb⟩
    have HB2 := Lib.hid (HB1.out.trans hb)
    have HR2 := Lib.hid (Blk.but HR1.out hb hgr)
    have HS2 := Lib.hid hs
    clear hs hb
    go_wp2_with fail
    refine (n_any g b len cap 4 _ HS2.out (by omega)).mono ?_
    rintro e w3 ⟨s, rfl, _, _, hs, hb⟩
    have HB3 := Lib.hid (HB2.out.trans hb)
    have HR3 := Lib.hid (Blk.but HR2.out hb hgr)
    have HS3 := Lib.hid hs
    clear hs hb
    have r0 := HR3.out.at_ 0 rfl
    have r1 := HR3.out.at_ 1 rfl
    have f0 := HR3.out.soft 0
    have f1 := HR3.out.soft 1
    go_wp2
    refine bodyPost_ret (v := .agg #[.int .i64 l, .int .i64 s]) (by simp [results, Tryd.results22, go_sem, *]) rfl ?_
    exact ⟨l, s, rfl, (HS3.out.setNew (p := ⟨w.heap.size, 0, none⟩) hg _).setNew (p := ⟨w.heap.size, 1, none⟩) hg _, (HB3.out.setNew (p := ⟨w.heap.size, 0, none⟩) (Nat.le_refl _) _).setNew (p := ⟨w.heap.size, 1, none⟩) (Nat.le_refl _) _⟩
  | true =>
    go_wp2_with fail
    refine wp_region_held_drew (S := (fun _ => True)) (by kernel_rfl) trivial (fun hHeld => ?_)
    have HB := Lib.hid HB1.out.drew
    have HR := Lib.hid (Blk.but HR1.out (But.refl g w1).drew hgr)
    have HS := Lib.hid (HS1.out.mono (Below.refl _ _).drew)
    clear HB1 HR1 HS1
    refine tk 1 hHeld ?_
    refine tk 6 hHeld ?_
    refine rd3 0 2 5 (fun K hK => ?_) (fun K hK => ?_) (fun K hK => ?_)
    · skip
      go_simp
      have hbA : But g (w1.drew) ((w1.drew).alloc (.cells #[.int .i64 (-1), .int .i64 3, .int .i64 4] 2)) := (But.refl _ _).alloc _
      have hwl : w.heap.size ≤ (w1.drew).heap.size := HB.out.size
      have HB := Lib.hid (HB.out.trans hbA)
      have HR := Lib.hid (Blk.but HR.out hbA hgr)
      have HT1 := Lib.hid (show Blk ((w1.drew).alloc (.cells #[.int .i64 (-1), .int .i64 3, .int .i64 4] 2)) (w1.heap.size) 2 #[.int .i64 (-1), .int .i64 3, .int .i64 4] from by have h9 := Blk.new (w1.drew) 2 #[.int .i64 (-1), .int .i64 3, .int .i64 4]; (try simp only [World.size_alloc, World.size_drew] at h9); exact h9)
      have HS := Lib.hid (HS.out.alloc (.cells #[.int .i64 (-1), .int .i64 3, .int .i64 4] 2))
      have hnB1 : w1.heap.size ≠ g := by have h9 := hwl; (try simp only [World.size_alloc, World.size_drew] at h9); omega
      refine hK.out _ _ trivial (fun _ => ?_)
      clear hK K hbA hwl
      refine rd2 2 5 (fun K hK => ?_) (fun K hK => ?_)
      · skip
        go_simp
        go_at_call 20
        refine (n_any g b len cap 3 _ HS.out (by omega)).mono ?_
        rintro e v1 ⟨q1, rfl, hq0, hq1, hs, hb⟩
        obtain ⟨k1, z1, rfl, hk1, hz1⟩ := tab3 (a := (-1)) (b := 3) (c := 4) hq0 hq1
        have hp1 : (0 : Int) ≤ (k1 : Int) := Int.natCast_nonneg _
        have hu1 : (k1 : Int) < 3 := by omega
        have HZ1 := Lib.hid hz1
        have HB := Lib.hid (HB.out.trans hb)
        have HR := Lib.hid (Blk.but HR.out hb hgr)
        have HT1 := Lib.hid (Blk.but HT1.out hb (by exact hnB1))
        have HS := Lib.hid hs
        refine hK.out _ _ trivial (fun _ => ?_)
        clear hK K hs hb hq0 hq1 hz1
        refine tk 3 hHeld ?_
        refine rd3 4 5 7 (fun K hK => ?_) (fun K hK => ?_) (fun K hK => ?_)
        · skip
          have cl : (v1).cell? ⟨w1.heap.size, k1, none⟩ = some (.int .i64 z1) := HT1.out.at_ k1 HZ1.out
          go_simp
          refine hK.out _ _ trivial (fun _ => ?_)
          clear hK K cl
          refine rd2 5 7 (fun K hK => ?_) (fun K hK => ?_)
          · skip
            go_simp
            have hbA : But g (v1) (v1.alloc (.cells #[.int .i64 (-1), .int .i64 7, .int .i64 8] 2)) := (But.refl _ _).alloc _
            have hwl : w.heap.size ≤ (v1).heap.size := HB.out.size
            have HB := Lib.hid (HB.out.trans hbA)
            have HR := Lib.hid (Blk.but HR.out hbA hgr)
            have HT1 := Lib.hid (Blk.but HT1.out hbA (by exact hnB1))
            have HT2 := Lib.hid (show Blk (v1.alloc (.cells #[.int .i64 (-1), .int .i64 7, .int .i64 8] 2)) (v1.heap.size) 2 #[.int .i64 (-1), .int .i64 7, .int .i64 8] from by have h9 := Blk.new (v1) 2 #[.int .i64 (-1), .int .i64 7, .int .i64 8]; (try simp only [World.size_alloc, World.size_drew] at h9); exact h9)
            have HS := Lib.hid (HS.out.alloc (.cells #[.int .i64 (-1), .int .i64 7, .int .i64 8] 2))
            have hnB2 : v1.heap.size ≠ g := by have h9 := hwl; (try simp only [World.size_alloc, World.size_drew] at h9); omega
            refine hK.out _ _ trivial (fun _ => ?_)
            clear hK K hbA hwl
            refine rd1 7 (fun K hK => ?_)
            go_simp
            go_at_call 20
            refine (n_any g b len cap 3 _ HS.out (by omega)).mono ?_
            rintro e v2 ⟨q2, rfl, hq0, hq1, hs, hb⟩
            obtain ⟨k2, z2, rfl, hk2, hz2⟩ := tab3 (a := (-1)) (b := 7) (c := 8) hq0 hq1
            have hp2 : (0 : Int) ≤ (k2 : Int) := Int.natCast_nonneg _
            have hu2 : (k2 : Int) < 3 := by omega
            have HZ2 := Lib.hid hz2
            have HB := Lib.hid (HB.out.trans hb)
            have HR := Lib.hid (Blk.but HR.out hb hgr)
            have HT1 := Lib.hid (Blk.but HT1.out hb (by exact hnB1))
            have HT2 := Lib.hid (Blk.but HT2.out hb (by exact hnB2))
            have HS := Lib.hid hs
            refine hK.out _ _ trivial (fun _ => ?_)
            clear hK K hs hb hq0 hq1 hz2
            refine tk 8 hHeld ?_
            refine rd1 9 (fun K hK => ?_)
            have cl : (v2).cell? ⟨v1.heap.size, k2, none⟩ = some (.int .i64 z2) := HT2.out.at_ k2 HZ2.out
            go_simp
            refine hK.out _ _ trivial (fun _ => ?_)
            clear hK K cl
            refine tk 10 hHeld ?_
            refine rd1 11 (fun K hK => ?_)
            have r0 := HR.out.at_ 0 rfl
            have r1 := HR.out.at_ 1 rfl
            have f0 := HR.out.soft 0
            have f1 := HR.out.soft 1
            go_simp
            refine hK.out _ _ trivial (fun _ => ?_)
            clear hK K
            refine rd0 ?_
            go_wp2
            refine bodyPost_ret (v := .agg #[.int .i64 z1, .int .i64 z2]) (by simp [results, Tryd.results22, go_sem, *]) rfl ?_
            exact ⟨z1, z2, rfl, (HS.out.setNew (p := ⟨w.heap.size, 0, none⟩) hg _).setNew (p := ⟨w.heap.size, 1, none⟩) hg _, (HB.out.setNew (p := ⟨w.heap.size, 0, none⟩) (Nat.le_refl _) _).setNew (p := ⟨w.heap.size, 1, none⟩) (Nat.le_refl _) _⟩
          · skip
            go_simp
            go_at_call 20
            refine (n_any g b len cap 3 _ HS.out (by omega)).mono ?_
            rintro e v3 ⟨q2, rfl, hq0, hq1, hs, hb⟩
            obtain ⟨k2, z2, rfl, hk2, hz2⟩ := tab3 (a := (-1)) (b := 7) (c := 8) hq0 hq1
            have hp2 : (0 : Int) ≤ (k2 : Int) := Int.natCast_nonneg _
            have hu2 : (k2 : Int) < 3 := by omega
            have HZ2 := Lib.hid hz2
            have HB := Lib.hid (HB.out.trans hb)
            have HR := Lib.hid (Blk.but HR.out hb hgr)
            have HT1 := Lib.hid (Blk.but HT1.out hb (by exact hnB1))
            have HS := Lib.hid hs
            refine hK.out _ _ trivial (fun _ => ?_)
            clear hK K hs hb hq0 hq1 hz2
            refine rd1 5 (fun K hK => ?_)
            go_simp
            have hbA : But g (v3) (v3.alloc (.cells #[.int .i64 (-1), .int .i64 7, .int .i64 8] 2)) := (But.refl _ _).alloc _
            have hwl : w.heap.size ≤ (v3).heap.size := HB.out.size
            have HB := Lib.hid (HB.out.trans hbA)
            have HR := Lib.hid (Blk.but HR.out hbA hgr)
            have HT1 := Lib.hid (Blk.but HT1.out hbA (by exact hnB1))
            have HT2 := Lib.hid (show Blk (v3.alloc (.cells #[.int .i64 (-1), .int .i64 7, .int .i64 8] 2)) (v3.heap.size) 2 #[.int .i64 (-1), .int .i64 7, .int .i64 8] from by have h9 := Blk.new (v3) 2 #[.int .i64 (-1), .int .i64 7, .int .i64 8]; (try simp only [World.size_alloc, World.size_drew] at h9); exact h9)
            have HS := Lib.hid (HS.out.alloc (.cells #[.int .i64 (-1), .int .i64 7, .int .i64 8] 2))
            have hnB2 : v3.heap.size ≠ g := by have h9 := hwl; (try simp only [World.size_alloc, World.size_drew] at h9); omega
            refine hK.out _ _ trivial (fun _ => ?_)
            clear hK K hbA hwl
            refine tk 8 hHeld ?_
            refine rd1 9 (fun K hK => ?_)
            have cl : (v3.alloc (.cells #[.int .i64 (-1), .int .i64 7, .int .i64 8] 2)).cell? ⟨v3.heap.size, k2, none⟩ = some (.int .i64 z2) := HT2.out.at_ k2 HZ2.out
            go_simp
            refine hK.out _ _ trivial (fun _ => ?_)
            clear hK K cl
            refine tk 10 hHeld ?_
            refine rd1 11 (fun K hK => ?_)
            have r0 := HR.out.at_ 0 rfl
            have r1 := HR.out.at_ 1 rfl
            have f0 := HR.out.soft 0
            have f1 := HR.out.soft 1
            go_simp
            refine hK.out _ _ trivial (fun _ => ?_)
            clear hK K
            refine rd0 ?_
            go_wp2
            refine bodyPost_ret (v := .agg #[.int .i64 z1, .int .i64 z2]) (by simp [results, Tryd.results22, go_sem, *]) rfl ?_
            exact ⟨z1, z2, rfl, (HS.out.setNew (p := ⟨w.heap.size, 0, none⟩) hg _).setNew (p := ⟨w.heap.size, 1, none⟩) hg _, (HB.out.setNew (p := ⟨w.heap.size, 0, none⟩) (Nat.le_refl _) _).setNew (p := ⟨w.heap.size, 1, none⟩) (Nat.le_refl _) _⟩
        · skip
          go_simp
          have hbA : But g (v1) (v1.alloc (.cells #[.int .i64 (-1), .int .i64 7, .int .i64 8] 2)) := (But.refl _ _).alloc _
          have hwl : w.heap.size ≤ (v1).heap.size := HB.out.size
          have HB := Lib.hid (HB.out.trans hbA)
          have HR := Lib.hid (Blk.but HR.out hbA hgr)
          have HT1 := Lib.hid (Blk.but HT1.out hbA (by exact hnB1))
          have HT2 := Lib.hid (show Blk (v1.alloc (.cells #[.int .i64 (-1), .int .i64 7, .int .i64 8] 2)) (v1.heap.size) 2 #[.int .i64 (-1), .int .i64 7, .int .i64 8] from by have h9 := Blk.new (v1) 2 #[.int .i64 (-1), .int .i64 7, .int .i64 8]; (try simp only [World.size_alloc, World.size_drew] at h9); exact h9)
          have HS := Lib.hid (HS.out.alloc (.cells #[.int .i64 (-1), .int .i64 7, .int .i64 8] 2))
          have hnB2 : v1.heap.size ≠ g := by have h9 := hwl; (try simp only [World.size_alloc, World.size_drew] at h9); omega
          refine hK.out _ _ trivial (fun _ => ?_)
          clear hK K hbA hwl
          refine rd2 4 7 (fun K hK => ?_) (fun K hK => ?_)
          · skip
            have cl : (v1.alloc (.cells #[.int .i64 (-1), .int .i64 7, .int .i64 8] 2)).cell? ⟨w1.heap.size, k1, none⟩ = some (.int .i64 z1) := HT1.out.at_ k1 HZ1.out
            go_simp
            refine hK.out _ _ trivial (fun _ => ?_)
            clear hK K cl
            refine rd1 7 (fun K hK => ?_)
            go_simp
            go_at_call 20
            refine (n_any g b len cap 3 _ HS.out (by omega)).mono ?_
            rintro e v4 ⟨q2, rfl, hq0, hq1, hs, hb⟩
            obtain ⟨k2, z2, rfl, hk2, hz2⟩ := tab3 (a := (-1)) (b := 7) (c := 8) hq0 hq1
            have hp2 : (0 : Int) ≤ (k2 : Int) := Int.natCast_nonneg _
            have hu2 : (k2 : Int) < 3 := by omega
            have HZ2 := Lib.hid hz2
            have HB := Lib.hid (HB.out.trans hb)
            have HR := Lib.hid (Blk.but HR.out hb hgr)
            have HT1 := Lib.hid (Blk.but HT1.out hb (by exact hnB1))
            have HT2 := Lib.hid (Blk.but HT2.out hb (by exact hnB2))
            have HS := Lib.hid hs
            refine hK.out _ _ trivial (fun _ => ?_)
            clear hK K hs hb hq0 hq1 hz2
            refine tk 8 hHeld ?_
            refine rd1 9 (fun K hK => ?_)
            have cl : (v4).cell? ⟨v1.heap.size, k2, none⟩ = some (.int .i64 z2) := HT2.out.at_ k2 HZ2.out
            go_simp
            refine hK.out _ _ trivial (fun _ => ?_)
            clear hK K cl
            refine tk 10 hHeld ?_
            refine rd1 11 (fun K hK => ?_)
            have r0 := HR.out.at_ 0 rfl
            have r1 := HR.out.at_ 1 rfl
            have f0 := HR.out.soft 0
            have f1 := HR.out.soft 1
            go_simp
            refine hK.out _ _ trivial (fun _ => ?_)
            clear hK K
            refine rd0 ?_
            go_wp2
            refine bodyPost_ret (v := .agg #[.int .i64 z1, .int .i64 z2]) (by simp [results, Tryd.results22, go_sem, *]) rfl ?_
            exact ⟨z1, z2, rfl, (HS.out.setNew (p := ⟨w.heap.size, 0, none⟩) hg _).setNew (p := ⟨w.heap.size, 1, none⟩) hg _, (HB.out.setNew (p := ⟨w.heap.size, 0, none⟩) (Nat.le_refl _) _).setNew (p := ⟨w.heap.size, 1, none⟩) (Nat.le_refl _) _⟩
          · skip
            go_simp
            go_at_call 20
            refine (n_any g b len cap 3 _ HS.out (by omega)).mono ?_
            rintro e v5 ⟨q2, rfl, hq0, hq1, hs, hb⟩
            obtain ⟨k2, z2, rfl, hk2, hz2⟩ := tab3 (a := (-1)) (b := 7) (c := 8) hq0 hq1
            have hp2 : (0 : Int) ≤ (k2 : Int) := Int.natCast_nonneg _
            have hu2 : (k2 : Int) < 3 := by omega
            have HZ2 := Lib.hid hz2
            have HB := Lib.hid (HB.out.trans hb)
            have HR := Lib.hid (Blk.but HR.out hb hgr)
            have HT1 := Lib.hid (Blk.but HT1.out hb (by exact hnB1))
            have HT2 := Lib.hid (Blk.but HT2.out hb (by exact hnB2))
            have HS := Lib.hid hs
            refine hK.out _ _ trivial (fun _ => ?_)
            clear hK K hs hb hq0 hq1 hz2
            refine tk 8 hHeld ?_
            refine rd2 4 9 (fun K hK => ?_) (fun K hK => ?_)
            · skip
              have cl : (v5).cell? ⟨w1.heap.size, k1, none⟩ = some (.int .i64 z1) := HT1.out.at_ k1 HZ1.out
              go_simp
              refine hK.out _ _ trivial (fun _ => ?_)
              clear hK K cl
              refine rd1 9 (fun K hK => ?_)
              have cl : (v5).cell? ⟨v1.heap.size, k2, none⟩ = some (.int .i64 z2) := HT2.out.at_ k2 HZ2.out
              go_simp
              refine hK.out _ _ trivial (fun _ => ?_)
              clear hK K cl
              refine tk 10 hHeld ?_
              refine rd1 11 (fun K hK => ?_)
              have r0 := HR.out.at_ 0 rfl
              have r1 := HR.out.at_ 1 rfl
              have f0 := HR.out.soft 0
              have f1 := HR.out.soft 1
              go_simp
              refine hK.out _ _ trivial (fun _ => ?_)
              clear hK K
              refine rd0 ?_
              go_wp2
              refine bodyPost_ret (v := .agg #[.int .i64 z1, .int .i64 z2]) (by simp [results, Tryd.results22, go_sem, *]) rfl ?_
              exact ⟨z1, z2, rfl, (HS.out.setNew (p := ⟨w.heap.size, 0, none⟩) hg _).setNew (p := ⟨w.heap.size, 1, none⟩) hg _, (HB.out.setNew (p := ⟨w.heap.size, 0, none⟩) (Nat.le_refl _) _).setNew (p := ⟨w.heap.size, 1, none⟩) (Nat.le_refl _) _⟩
            · skip
              have cl : (v5).cell? ⟨v1.heap.size, k2, none⟩ = some (.int .i64 z2) := HT2.out.at_ k2 HZ2.out
              go_simp
              refine hK.out _ _ trivial (fun _ => ?_)
              clear hK K cl
              refine rd1 4 (fun K hK => ?_)
              have cl : (v5).cell? ⟨w1.heap.size, k1, none⟩ = some (.int .i64 z1) := HT1.out.at_ k1 HZ1.out
              go_simp
              refine hK.out _ _ trivial (fun _ => ?_)
              clear hK K cl
              refine tk 10 hHeld ?_
              refine rd1 11 (fun K hK => ?_)
              have r0 := HR.out.at_ 0 rfl
              have r1 := HR.out.at_ 1 rfl
              have f0 := HR.out.soft 0
              have f1 := HR.out.soft 1
              go_simp
              refine hK.out _ _ trivial (fun _ => ?_)
              clear hK K
              refine rd0 ?_
              go_wp2
              refine bodyPost_ret (v := .agg #[.int .i64 z1, .int .i64 z2]) (by simp [results, Tryd.results22, go_sem, *]) rfl ?_
              exact ⟨z1, z2, rfl, (HS.out.setNew (p := ⟨w.heap.size, 0, none⟩) hg _).setNew (p := ⟨w.heap.size, 1, none⟩) hg _, (HB.out.setNew (p := ⟨w.heap.size, 0, none⟩) (Nat.le_refl _) _).setNew (p := ⟨w.heap.size, 1, none⟩) (Nat.le_refl _) _⟩
        · skip
          go_simp
          go_at_call 20
          refine (n_any g b len cap 3 _ HS.out (by omega)).mono ?_
          rintro e v6 ⟨q2, rfl, hq0, hq1, hs, hb⟩
          obtain ⟨k2, z2, rfl, hk2, hz2⟩ := tab3 (a := (-1)) (b := 7) (c := 8) hq0 hq1
          have hp2 : (0 : Int) ≤ (k2 : Int) := Int.natCast_nonneg _
          have hu2 : (k2 : Int) < 3 := by omega
          have HZ2 := Lib.hid hz2
          have HB := Lib.hid (HB.out.trans hb)
          have HR := Lib.hid (Blk.but HR.out hb hgr)
          have HT1 := Lib.hid (Blk.but HT1.out hb (by exact hnB1))
          have HS := Lib.hid hs
          refine hK.out _ _ trivial (fun _ => ?_)
          clear hK K hs hb hq0 hq1 hz2
          refine rd2 4 5 (fun K hK => ?_) (fun K hK => ?_)
          · skip
            have cl : (v6).cell? ⟨w1.heap.size, k1, none⟩ = some (.int .i64 z1) := HT1.out.at_ k1 HZ1.out
            go_simp
            refine hK.out _ _ trivial (fun _ => ?_)
            clear hK K cl
            refine rd1 5 (fun K hK => ?_)
            go_simp
            have hbA : But g (v6) (v6.alloc (.cells #[.int .i64 (-1), .int .i64 7, .int .i64 8] 2)) := (But.refl _ _).alloc _
            have hwl : w.heap.size ≤ (v6).heap.size := HB.out.size
            have HB := Lib.hid (HB.out.trans hbA)
            have HR := Lib.hid (Blk.but HR.out hbA hgr)
            have HT1 := Lib.hid (Blk.but HT1.out hbA (by exact hnB1))
            have HT2 := Lib.hid (show Blk (v6.alloc (.cells #[.int .i64 (-1), .int .i64 7, .int .i64 8] 2)) (v6.heap.size) 2 #[.int .i64 (-1), .int .i64 7, .int .i64 8] from by have h9 := Blk.new (v6) 2 #[.int .i64 (-1), .int .i64 7, .int .i64 8]; (try simp only [World.size_alloc, World.size_drew] at h9); exact h9)
            have HS := Lib.hid (HS.out.alloc (.cells #[.int .i64 (-1), .int .i64 7, .int .i64 8] 2))
            have hnB2 : v6.heap.size ≠ g := by have h9 := hwl; (try simp only [World.size_alloc, World.size_drew] at h9); omega
            refine hK.out _ _ trivial (fun _ => ?_)
            clear hK K hbA hwl
            refine tk 8 hHeld ?_
            refine rd1 9 (fun K hK => ?_)
            have cl : (v6.alloc (.cells #[.int .i64 (-1), .int .i64 7, .int .i64 8] 2)).cell? ⟨v6.heap.size, k2, none⟩ = some (.int .i64 z2) := HT2.out.at_ k2 HZ2.out
            go_simp
            refine hK.out _ _ trivial (fun _ => ?_)
            clear hK K cl
            refine tk 10 hHeld ?_
            refine rd1 11 (fun K hK => ?_)
            have r0 := HR.out.at_ 0 rfl
            have r1 := HR.out.at_ 1 rfl
            have f0 := HR.out.soft 0
            have f1 := HR.out.soft 1
            go_simp
            refine hK.out _ _ trivial (fun _ => ?_)
            clear hK K
            refine rd0 ?_
            go_wp2
            refine bodyPost_ret (v := .agg #[.int .i64 z1, .int .i64 z2]) (by simp [results, Tryd.results22, go_sem, *]) rfl ?_
            exact ⟨z1, z2, rfl, (HS.out.setNew (p := ⟨w.heap.size, 0, none⟩) hg _).setNew (p := ⟨w.heap.size, 1, none⟩) hg _, (HB.out.setNew (p := ⟨w.heap.size, 0, none⟩) (Nat.le_refl _) _).setNew (p := ⟨w.heap.size, 1, none⟩) (Nat.le_refl _) _⟩
          · skip
            go_simp
            have hbA : But g (v6) (v6.alloc (.cells #[.int .i64 (-1), .int .i64 7, .int .i64 8] 2)) := (But.refl _ _).alloc _
            have hwl : w.heap.size ≤ (v6).heap.size := HB.out.size
            have HB := Lib.hid (HB.out.trans hbA)
            have HR := Lib.hid (Blk.but HR.out hbA hgr)
            have HT1 := Lib.hid (Blk.but HT1.out hbA (by exact hnB1))
            have HT2 := Lib.hid (show Blk (v6.alloc (.cells #[.int .i64 (-1), .int .i64 7, .int .i64 8] 2)) (v6.heap.size) 2 #[.int .i64 (-1), .int .i64 7, .int .i64 8] from by have h9 := Blk.new (v6) 2 #[.int .i64 (-1), .int .i64 7, .int .i64 8]; (try simp only [World.size_alloc, World.size_drew] at h9); exact h9)
            have HS := Lib.hid (HS.out.alloc (.cells #[.int .i64 (-1), .int .i64 7, .int .i64 8] 2))
            have hnB2 : v6.heap.size ≠ g := by have h9 := hwl; (try simp only [World.size_alloc, World.size_drew] at h9); omega
            refine hK.out _ _ trivial (fun _ => ?_)
            clear hK K hbA hwl
            refine tk 8 hHeld ?_
            refine rd2 4 9 (fun K hK => ?_) (fun K hK => ?_)
            · skip
              have cl : (v6.alloc (.cells #[.int .i64 (-1), .int .i64 7, .int .i64 8] 2)).cell? ⟨w1.heap.size, k1, none⟩ = some (.int .i64 z1) := HT1.out.at_ k1 HZ1.out
              go_simp
              refine hK.out _ _ trivial (fun _ => ?_)
              clear hK K cl
              refine rd1 9 (fun K hK => ?_)
              have cl : (v6.alloc (.cells #[.int .i64 (-1), .int .i64 7, .int .i64 8] 2)).cell? ⟨v6.heap.size, k2, none⟩ = some (.int .i64 z2) := HT2.out.at_ k2 HZ2.out
              go_simp
              refine hK.out _ _ trivial (fun _ => ?_)
              clear hK K cl
              refine tk 10 hHeld ?_
              refine rd1 11 (fun K hK => ?_)
              have r0 := HR.out.at_ 0 rfl
              have r1 := HR.out.at_ 1 rfl
              have f0 := HR.out.soft 0
              have f1 := HR.out.soft 1
              go_simp
              refine hK.out _ _ trivial (fun _ => ?_)
              clear hK K
              refine rd0 ?_
              go_wp2
              refine bodyPost_ret (v := .agg #[.int .i64 z1, .int .i64 z2]) (by simp [results, Tryd.results22, go_sem, *]) rfl ?_
              exact ⟨z1, z2, rfl, (HS.out.setNew (p := ⟨w.heap.size, 0, none⟩) hg _).setNew (p := ⟨w.heap.size, 1, none⟩) hg _, (HB.out.setNew (p := ⟨w.heap.size, 0, none⟩) (Nat.le_refl _) _).setNew (p := ⟨w.heap.size, 1, none⟩) (Nat.le_refl _) _⟩
            · skip
              have cl : (v6.alloc (.cells #[.int .i64 (-1), .int .i64 7, .int .i64 8] 2)).cell? ⟨v6.heap.size, k2, none⟩ = some (.int .i64 z2) := HT2.out.at_ k2 HZ2.out
              go_simp
              refine hK.out _ _ trivial (fun _ => ?_)
              clear hK K cl
              refine rd1 4 (fun K hK => ?_)
              have cl : (v6.alloc (.cells #[.int .i64 (-1), .int .i64 7, .int .i64 8] 2)).cell? ⟨w1.heap.size, k1, none⟩ = some (.int .i64 z1) := HT1.out.at_ k1 HZ1.out
              go_simp
              refine hK.out _ _ trivial (fun _ => ?_)
              clear hK K cl
              refine tk 10 hHeld ?_
              refine rd1 11 (fun K hK => ?_)
              have r0 := HR.out.at_ 0 rfl
              have r1 := HR.out.at_ 1 rfl
              have f0 := HR.out.soft 0
              have f1 := HR.out.soft 1
              go_simp
              refine hK.out _ _ trivial (fun _ => ?_)
              clear hK K
              refine rd0 ?_
              go_wp2
              refine bodyPost_ret (v := .agg #[.int .i64 z1, .int .i64 z2]) (by simp [results, Tryd.results22, go_sem, *]) rfl ?_
              exact ⟨z1, z2, rfl, (HS.out.setNew (p := ⟨w.heap.size, 0, none⟩) hg _).setNew (p := ⟨w.heap.size, 1, none⟩) hg _, (HB.out.setNew (p := ⟨w.heap.size, 0, none⟩) (Nat.le_refl _) _).setNew (p := ⟨w.heap.size, 1, none⟩) (Nat.le_refl _) _⟩
      · skip
        go_simp
        have hbA : But g ((w1.drew).alloc (.cells #[.int .i64 (-1), .int .i64 3, .int .i64 4] 2)) (((w1.drew).alloc (.cells #[.int .i64 (-1), .int .i64 3, .int .i64 4] 2)).alloc (.cells #[.int .i64 (-1), .int .i64 7, .int .i64 8] 2)) := (But.refl _ _).alloc _
        have hwl : w.heap.size ≤ ((w1.drew).alloc (.cells #[.int .i64 (-1), .int .i64 3, .int .i64 4] 2)).heap.size := HB.out.size
        have HB := Lib.hid (HB.out.trans hbA)
        have HR := Lib.hid (Blk.but HR.out hbA hgr)
        have HT1 := Lib.hid (Blk.but HT1.out hbA (by exact hnB1))
        have HT2 := Lib.hid (show Blk (((w1.drew).alloc (.cells #[.int .i64 (-1), .int .i64 3, .int .i64 4] 2)).alloc (.cells #[.int .i64 (-1), .int .i64 7, .int .i64 8] 2)) (w1.heap.size + 1) 2 #[.int .i64 (-1), .int .i64 7, .int .i64 8] from by have h9 := Blk.new ((w1.drew).alloc (.cells #[.int .i64 (-1), .int .i64 3, .int .i64 4] 2)) 2 #[.int .i64 (-1), .int .i64 7, .int .i64 8]; (try simp only [World.size_alloc, World.size_drew] at h9); exact h9)
        have HS := Lib.hid (HS.out.alloc (.cells #[.int .i64 (-1), .int .i64 7, .int .i64 8] 2))
        have hnB2 : w1.heap.size + 1 ≠ g := by have h9 := hwl; (try simp only [World.size_alloc, World.size_drew] at h9); omega
        refine hK.out _ _ trivial (fun _ => ?_)
        clear hK K hbA hwl
        refine rd1 2 (fun K hK => ?_)
        go_simp
        go_at_call 20
        refine (n_any g b len cap 3 _ HS.out (by omega)).mono ?_
        rintro e v7 ⟨q1, rfl, hq0, hq1, hs, hb⟩
        obtain ⟨k1, z1, rfl, hk1, hz1⟩ := tab3 (a := (-1)) (b := 3) (c := 4) hq0 hq1
        have hp1 : (0 : Int) ≤ (k1 : Int) := Int.natCast_nonneg _
        have hu1 : (k1 : Int) < 3 := by omega
        have HZ1 := Lib.hid hz1
        have HB := Lib.hid (HB.out.trans hb)
        have HR := Lib.hid (Blk.but HR.out hb hgr)
        have HT1 := Lib.hid (Blk.but HT1.out hb (by exact hnB1))
        have HT2 := Lib.hid (Blk.but HT2.out hb (by exact hnB2))
        have HS := Lib.hid hs
        refine hK.out _ _ trivial (fun _ => ?_)
        clear hK K hs hb hq0 hq1 hz1
        refine tk 3 hHeld ?_
        refine rd2 4 7 (fun K hK => ?_) (fun K hK => ?_)
        · skip
          have cl : (v7).cell? ⟨w1.heap.size, k1, none⟩ = some (.int .i64 z1) := HT1.out.at_ k1 HZ1.out
          go_simp
          refine hK.out _ _ trivial (fun _ => ?_)
          clear hK K cl
          refine rd1 7 (fun K hK => ?_)
          go_simp
          go_at_call 20
          refine (n_any g b len cap 3 _ HS.out (by omega)).mono ?_
          rintro e v8 ⟨q2, rfl, hq0, hq1, hs, hb⟩
          obtain ⟨k2, z2, rfl, hk2, hz2⟩ := tab3 (a := (-1)) (b := 7) (c := 8) hq0 hq1
          have hp2 : (0 : Int) ≤ (k2 : Int) := Int.natCast_nonneg _
          have hu2 : (k2 : Int) < 3 := by omega
          have HZ2 := Lib.hid hz2
          have HB := Lib.hid (HB.out.trans hb)
          have HR := Lib.hid (Blk.but HR.out hb hgr)
          have HT1 := Lib.hid (Blk.but HT1.out hb (by exact hnB1))
          have HT2 := Lib.hid (Blk.but HT2.out hb (by exact hnB2))
          have HS := Lib.hid hs
          refine hK.out _ _ trivial (fun _ => ?_)
          clear hK K hs hb hq0 hq1 hz2
          refine tk 8 hHeld ?_
          refine rd1 9 (fun K hK => ?_)
          have cl : (v8).cell? ⟨w1.heap.size + 1, k2, none⟩ = some (.int .i64 z2) := HT2.out.at_ k2 HZ2.out
          go_simp
          refine hK.out _ _ trivial (fun _ => ?_)
          clear hK K cl
          refine tk 10 hHeld ?_
          refine rd1 11 (fun K hK => ?_)
          have r0 := HR.out.at_ 0 rfl
          have r1 := HR.out.at_ 1 rfl
          have f0 := HR.out.soft 0
          have f1 := HR.out.soft 1
          go_simp
          refine hK.out _ _ trivial (fun _ => ?_)
          clear hK K
          refine rd0 ?_
          go_wp2
          refine bodyPost_ret (v := .agg #[.int .i64 z1, .int .i64 z2]) (by simp [results, Tryd.results22, go_sem, *]) rfl ?_
          exact ⟨z1, z2, rfl, (HS.out.setNew (p := ⟨w.heap.size, 0, none⟩) hg _).setNew (p := ⟨w.heap.size, 1, none⟩) hg _, (HB.out.setNew (p := ⟨w.heap.size, 0, none⟩) (Nat.le_refl _) _).setNew (p := ⟨w.heap.size, 1, none⟩) (Nat.le_refl _) _⟩
        · skip
          go_simp
          go_at_call 20
          refine (n_any g b len cap 3 _ HS.out (by omega)).mono ?_
          rintro e v9 ⟨q2, rfl, hq0, hq1, hs, hb⟩
          obtain ⟨k2, z2, rfl, hk2, hz2⟩ := tab3 (a := (-1)) (b := 7) (c := 8) hq0 hq1
          have hp2 : (0 : Int) ≤ (k2 : Int) := Int.natCast_nonneg _
          have hu2 : (k2 : Int) < 3 := by omega
          have HZ2 := Lib.hid hz2
          have HB := Lib.hid (HB.out.trans hb)
          have HR := Lib.hid (Blk.but HR.out hb hgr)
          have HT1 := Lib.hid (Blk.but HT1.out hb (by exact hnB1))
          have HT2 := Lib.hid (Blk.but HT2.out hb (by exact hnB2))
          have HS := Lib.hid hs
          refine hK.out _ _ trivial (fun _ => ?_)
          clear hK K hs hb hq0 hq1 hz2
          refine tk 8 hHeld ?_
          refine rd2 4 9 (fun K hK => ?_) (fun K hK => ?_)
          · skip
            have cl : (v9).cell? ⟨w1.heap.size, k1, none⟩ = some (.int .i64 z1) := HT1.out.at_ k1 HZ1.out
            go_simp
            refine hK.out _ _ trivial (fun _ => ?_)
            clear hK K cl
            refine rd1 9 (fun K hK => ?_)
            have cl : (v9).cell? ⟨w1.heap.size + 1, k2, none⟩ = some (.int .i64 z2) := HT2.out.at_ k2 HZ2.out
            go_simp
            refine hK.out _ _ trivial (fun _ => ?_)
            clear hK K cl
            refine tk 10 hHeld ?_
            refine rd1 11 (fun K hK => ?_)
            have r0 := HR.out.at_ 0 rfl
            have r1 := HR.out.at_ 1 rfl
            have f0 := HR.out.soft 0
            have f1 := HR.out.soft 1
            go_simp
            refine hK.out _ _ trivial (fun _ => ?_)
            clear hK K
            refine rd0 ?_
            go_wp2
            refine bodyPost_ret (v := .agg #[.int .i64 z1, .int .i64 z2]) (by simp [results, Tryd.results22, go_sem, *]) rfl ?_
            exact ⟨z1, z2, rfl, (HS.out.setNew (p := ⟨w.heap.size, 0, none⟩) hg _).setNew (p := ⟨w.heap.size, 1, none⟩) hg _, (HB.out.setNew (p := ⟨w.heap.size, 0, none⟩) (Nat.le_refl _) _).setNew (p := ⟨w.heap.size, 1, none⟩) (Nat.le_refl _) _⟩
          · skip
            have cl : (v9).cell? ⟨w1.heap.size + 1, k2, none⟩ = some (.int .i64 z2) := HT2.out.at_ k2 HZ2.out
            go_simp
            refine hK.out _ _ trivial (fun _ => ?_)
            clear hK K cl
            refine rd1 4 (fun K hK => ?_)
            have cl : (v9).cell? ⟨w1.heap.size, k1, none⟩ = some (.int .i64 z1) := HT1.out.at_ k1 HZ1.out
            go_simp
            refine hK.out _ _ trivial (fun _ => ?_)
            clear hK K cl
            refine tk 10 hHeld ?_
            refine rd1 11 (fun K hK => ?_)
            have r0 := HR.out.at_ 0 rfl
            have r1 := HR.out.at_ 1 rfl
            have f0 := HR.out.soft 0
            have f1 := HR.out.soft 1
            go_simp
            refine hK.out _ _ trivial (fun _ => ?_)
            clear hK K
            refine rd0 ?_
            go_wp2
            refine bodyPost_ret (v := .agg #[.int .i64 z1, .int .i64 z2]) (by simp [results, Tryd.results22, go_sem, *]) rfl ?_
            exact ⟨z1, z2, rfl, (HS.out.setNew (p := ⟨w.heap.size, 0, none⟩) hg _).setNew (p := ⟨w.heap.size, 1, none⟩) hg _, (HB.out.setNew (p := ⟨w.heap.size, 0, none⟩) (Nat.le_refl _) _).setNew (p := ⟨w.heap.size, 1, none⟩) (Nat.le_refl _) _⟩
    · skip
      go_simp
      go_at_call 20
      refine (n_any g b len cap 3 _ HS.out (by omega)).mono ?_
      rintro e v10 ⟨q1, rfl, hq0, hq1, hs, hb⟩
      obtain ⟨k1, z1, rfl, hk1, hz1⟩ := tab3 (a := (-1)) (b := 3) (c := 4) hq0 hq1
      have hp1 : (0 : Int) ≤ (k1 : Int) := Int.natCast_nonneg _
      have hu1 : (k1 : Int) < 3 := by omega
      have HZ1 := Lib.hid hz1
      have HB := Lib.hid (HB.out.trans hb)
      have HR := Lib.hid (Blk.but HR.out hb hgr)
      have HS := Lib.hid hs
      refine hK.out _ _ trivial (fun _ => ?_)
      clear hK K hs hb hq0 hq1 hz1
      refine rd3 0 5 7 (fun K hK => ?_) (fun K hK => ?_) (fun K hK => ?_)
      · skip
        go_simp
        have hbA : But g (v10) (v10.alloc (.cells #[.int .i64 (-1), .int .i64 3, .int .i64 4] 2)) := (But.refl _ _).alloc _
        have hwl : w.heap.size ≤ (v10).heap.size := HB.out.size
        have HB := Lib.hid (HB.out.trans hbA)
        have HR := Lib.hid (Blk.but HR.out hbA hgr)
        have HT1 := Lib.hid (show Blk (v10.alloc (.cells #[.int .i64 (-1), .int .i64 3, .int .i64 4] 2)) (v10.heap.size) 2 #[.int .i64 (-1), .int .i64 3, .int .i64 4] from by have h9 := Blk.new (v10) 2 #[.int .i64 (-1), .int .i64 3, .int .i64 4]; (try simp only [World.size_alloc, World.size_drew] at h9); exact h9)
        have HS := Lib.hid (HS.out.alloc (.cells #[.int .i64 (-1), .int .i64 3, .int .i64 4] 2))
        have hnB1 : v10.heap.size ≠ g := by have h9 := hwl; (try simp only [World.size_alloc, World.size_drew] at h9); omega
        refine hK.out _ _ trivial (fun _ => ?_)
        clear hK K hbA hwl
        refine tk 3 hHeld ?_
        refine rd3 4 5 7 (fun K hK => ?_) (fun K hK => ?_) (fun K hK => ?_)
        · skip
          have cl : (v10.alloc (.cells #[.int .i64 (-1), .int .i64 3, .int .i64 4] 2)).cell? ⟨v10.heap.size, k1, none⟩ = some (.int .i64 z1) := HT1.out.at_ k1 HZ1.out
          go_simp
          refine hK.out _ _ trivial (fun _ => ?_)
          clear hK K cl
          refine rd2 5 7 (fun K hK => ?_) (fun K hK => ?_)
          · skip
            go_simp
            have hbA : But g (v10.alloc (.cells #[.int .i64 (-1), .int .i64 3, .int .i64 4] 2)) ((v10.alloc (.cells #[.int .i64 (-1), .int .i64 3, .int .i64 4] 2)).alloc (.cells #[.int .i64 (-1), .int .i64 7, .int .i64 8] 2)) := (But.refl _ _).alloc _
            have hwl : w.heap.size ≤ (v10.alloc (.cells #[.int .i64 (-1), .int .i64 3, .int .i64 4] 2)).heap.size := HB.out.size
            have HB := Lib.hid (HB.out.trans hbA)
            have HR := Lib.hid (Blk.but HR.out hbA hgr)
            have HT1 := Lib.hid (Blk.but HT1.out hbA (by exact hnB1))
            have HT2 := Lib.hid (show Blk ((v10.alloc (.cells #[.int .i64 (-1), .int .i64 3, .int .i64 4] 2)).alloc (.cells #[.int .i64 (-1), .int .i64 7, .int .i64 8] 2)) (v10.heap.size + 1) 2 #[.int .i64 (-1), .int .i64 7, .int .i64 8] from by have h9 := Blk.new (v10.alloc (.cells #[.int .i64 (-1), .int .i64 3, .int .i64 4] 2)) 2 #[.int .i64 (-1), .int .i64 7, .int .i64 8]; (try simp only [World.size_alloc, World.size_drew] at h9); exact h9)
            have HS := Lib.hid (HS.out.alloc (.cells #[.int .i64 (-1), .int .i64 7, .int .i64 8] 2))
            have hnB2 : v10.heap.size + 1 ≠ g := by have h9 := hwl; (try simp only [World.size_alloc, World.size_drew] at h9); omega
            refine hK.out _ _ trivial (fun _ => ?_)
            clear hK K hbA hwl
            refine rd1 7 (fun K hK => ?_)
            go_simp
            go_at_call 20
            refine (n_any g b len cap 3 _ HS.out (by omega)).mono ?_
            rintro e v11 ⟨q2, rfl, hq0, hq1, hs, hb⟩
            obtain ⟨k2, z2, rfl, hk2, hz2⟩ := tab3 (a := (-1)) (b := 7) (c := 8) hq0 hq1
            have hp2 : (0 : Int) ≤ (k2 : Int) := Int.natCast_nonneg _
            have hu2 : (k2 : Int) < 3 := by omega
            have HZ2 := Lib.hid hz2
            have HB := Lib.hid (HB.out.trans hb)
            have HR := Lib.hid (Blk.but HR.out hb hgr)
            have HT1 := Lib.hid (Blk.but HT1.out hb (by exact hnB1))
            have HT2 := Lib.hid (Blk.but HT2.out hb (by exact hnB2))
            have HS := Lib.hid hs
            refine hK.out _ _ trivial (fun _ => ?_)
            clear hK K hs hb hq0 hq1 hz2
            refine tk 8 hHeld ?_
            refine rd1 9 (fun K hK => ?_)
            have cl : (v11).cell? ⟨v10.heap.size + 1, k2, none⟩ = some (.int .i64 z2) := HT2.out.at_ k2 HZ2.out
            go_simp
            refine hK.out _ _ trivial (fun _ => ?_)
            clear hK K cl
            refine tk 10 hHeld ?_
            refine rd1 11 (fun K hK => ?_)
            have r0 := HR.out.at_ 0 rfl
            have r1 := HR.out.at_ 1 rfl
            have f0 := HR.out.soft 0
            have f1 := HR.out.soft 1
            go_simp
            refine hK.out _ _ trivial (fun _ => ?_)
            clear hK K
            refine rd0 ?_
            go_wp2
            refine bodyPost_ret (v := .agg #[.int .i64 z1, .int .i64 z2]) (by simp [results, Tryd.results22, go_sem, *]) rfl ?_
            exact ⟨z1, z2, rfl, (HS.out.setNew (p := ⟨w.heap.size, 0, none⟩) hg _).setNew (p := ⟨w.heap.size, 1, none⟩) hg _, (HB.out.setNew (p := ⟨w.heap.size, 0, none⟩) (Nat.le_refl _) _).setNew (p := ⟨w.heap.size, 1, none⟩) (Nat.le_refl _) _⟩
          · skip
            go_simp
            go_at_call 20
            refine (n_any g b len cap 3 _ HS.out (by omega)).mono ?_
            rintro e v12 ⟨q2, rfl, hq0, hq1, hs, hb⟩
            obtain ⟨k2, z2, rfl, hk2, hz2⟩ := tab3 (a := (-1)) (b := 7) (c := 8) hq0 hq1
            have hp2 : (0 : Int) ≤ (k2 : Int) := Int.natCast_nonneg _
            have hu2 : (k2 : Int) < 3 := by omega
            have HZ2 := Lib.hid hz2
            have HB := Lib.hid (HB.out.trans hb)
            have HR := Lib.hid (Blk.but HR.out hb hgr)
            have HT1 := Lib.hid (Blk.but HT1.out hb (by exact hnB1))
            have HS := Lib.hid hs
            refine hK.out _ _ trivial (fun _ => ?_)
            clear hK K hs hb hq0 hq1 hz2
            refine rd1 5 (fun K hK => ?_)
            go_simp
            have hbA : But g (v12) (v12.alloc (.cells #[.int .i64 (-1), .int .i64 7, .int .i64 8] 2)) := (But.refl _ _).alloc _
            have hwl : w.heap.size ≤ (v12).heap.size := HB.out.size
            have HB := Lib.hid (HB.out.trans hbA)
            have HR := Lib.hid (Blk.but HR.out hbA hgr)
            have HT1 := Lib.hid (Blk.but HT1.out hbA (by exact hnB1))
            have HT2 := Lib.hid (show Blk (v12.alloc (.cells #[.int .i64 (-1), .int .i64 7, .int .i64 8] 2)) (v12.heap.size) 2 #[.int .i64 (-1), .int .i64 7, .int .i64 8] from by have h9 := Blk.new (v12) 2 #[.int .i64 (-1), .int .i64 7, .int .i64 8]; (try simp only [World.size_alloc, World.size_drew] at h9); exact h9)
            have HS := Lib.hid (HS.out.alloc (.cells #[.int .i64 (-1), .int .i64 7, .int .i64 8] 2))
            have hnB2 : v12.heap.size ≠ g := by have h9 := hwl; (try simp only [World.size_alloc, World.size_drew] at h9); omega
            refine hK.out _ _ trivial (fun _ => ?_)
            clear hK K hbA hwl
            refine tk 8 hHeld ?_
            refine rd1 9 (fun K hK => ?_)
            have cl : (v12.alloc (.cells #[.int .i64 (-1), .int .i64 7, .int .i64 8] 2)).cell? ⟨v12.heap.size, k2, none⟩ = some (.int .i64 z2) := HT2.out.at_ k2 HZ2.out
            go_simp
            refine hK.out _ _ trivial (fun _ => ?_)
            clear hK K cl
            refine tk 10 hHeld ?_
            refine rd1 11 (fun K hK => ?_)
            have r0 := HR.out.at_ 0 rfl
            have r1 := HR.out.at_ 1 rfl
            have f0 := HR.out.soft 0
            have f1 := HR.out.soft 1
            go_simp
            refine hK.out _ _ trivial (fun _ => ?_)
            clear hK K
            refine rd0 ?_
            go_wp2
            refine bodyPost_ret (v := .agg #[.int .i64 z1, .int .i64 z2]) (by simp [results, Tryd.results22, go_sem, *]) rfl ?_
            exact ⟨z1, z2, rfl, (HS.out.setNew (p := ⟨w.heap.size, 0, none⟩) hg _).setNew (p := ⟨w.heap.size, 1, none⟩) hg _, (HB.out.setNew (p := ⟨w.heap.size, 0, none⟩) (Nat.le_refl _) _).setNew (p := ⟨w.heap.size, 1, none⟩) (Nat.le_refl _) _⟩
        · skip
          go_simp
          have hbA : But g (v10.alloc (.cells #[.int .i64 (-1), .int .i64 3, .int .i64 4] 2)) ((v10.alloc (.cells #[.int .i64 (-1), .int .i64 3, .int .i64 4] 2)).alloc (.cells #[.int .i64 (-1), .int .i64 7, .int .i64 8] 2)) := (But.refl _ _).alloc _
          have hwl : w.heap.size ≤ (v10.alloc (.cells #[.int .i64 (-1), .int .i64 3, .int .i64 4] 2)).heap.size := HB.out.size
          have HB := Lib.hid (HB.out.trans hbA)
          have HR := Lib.hid (Blk.but HR.out hbA hgr)
          have HT1 := Lib.hid (Blk.but HT1.out hbA (by exact hnB1))
          have HT2 := Lib.hid (show Blk ((v10.alloc (.cells #[.int .i64 (-1), .int .i64 3, .int .i64 4] 2)).alloc (.cells #[.int .i64 (-1), .int .i64 7, .int .i64 8] 2)) (v10.heap.size + 1) 2 #[.int .i64 (-1), .int .i64 7, .int .i64 8] from by have h9 := Blk.new (v10.alloc (.cells #[.int .i64 (-1), .int .i64 3, .int .i64 4] 2)) 2 #[.int .i64 (-1), .int .i64 7, .int .i64 8]; (try simp only [World.size_alloc, World.size_drew] at h9); exact h9)
          have HS := Lib.hid (HS.out.alloc (.cells #[.int .i64 (-1), .int .i64 7, .int .i64 8] 2))
          have hnB2 : v10.heap.size + 1 ≠ g := by have h9 := hwl; (try simp only [World.size_alloc, World.size_drew] at h9); omega
          refine hK.out _ _ trivial (fun _ => ?_)
          clear hK K hbA hwl
          refine rd2 4 7 (fun K hK => ?_) (fun K hK => ?_)
          · skip
            have cl : ((v10.alloc (.cells #[.int .i64 (-1), .int .i64 3, .int .i64 4] 2)).alloc (.cells #[.int .i64 (-1), .int .i64 7, .int .i64 8] 2)).cell? ⟨v10.heap.size, k1, none⟩ = some (.int .i64 z1) := HT1.out.at_ k1 HZ1.out
            go_simp
            refine hK.out _ _ trivial (fun _ => ?_)
            clear hK K cl
            refine rd1 7 (fun K hK => ?_)
            go_simp
            go_at_call 20
            refine (n_any g b len cap 3 _ HS.out (by omega)).mono ?_
            rintro e v13 ⟨q2, rfl, hq0, hq1, hs, hb⟩
            obtain ⟨k2, z2, rfl, hk2, hz2⟩ := tab3 (a := (-1)) (b := 7) (c := 8) hq0 hq1
            have hp2 : (0 : Int) ≤ (k2 : Int) := Int.natCast_nonneg _
            have hu2 : (k2 : Int) < 3 := by omega
            have HZ2 := Lib.hid hz2
            have HB := Lib.hid (HB.out.trans hb)
            have HR := Lib.hid (Blk.but HR.out hb hgr)
            have HT1 := Lib.hid (Blk.but HT1.out hb (by exact hnB1))
            have HT2 := Lib.hid (Blk.but HT2.out hb (by exact hnB2))
            have HS := Lib.hid hs
            refine hK.out _ _ trivial (fun _ => ?_)
            clear hK K hs hb hq0 hq1 hz2
            refine tk 8 hHeld ?_
            refine rd1 9 (fun K hK => ?_)
            have cl : (v13).cell? ⟨v10.heap.size + 1, k2, none⟩ = some (.int .i64 z2) := HT2.out.at_ k2 HZ2.out
            go_simp
            refine hK.out _ _ trivial (fun _ => ?_)
            clear hK K cl
            refine tk 10 hHeld ?_
            refine rd1 11 (fun K hK => ?_)
            have r0 := HR.out.at_ 0 rfl
            have r1 := HR.out.at_ 1 rfl
            have f0 := HR.out.soft 0
            have f1 := HR.out.soft 1
            go_simp
            refine hK.out _ _ trivial (fun _ => ?_)
            clear hK K
            refine rd0 ?_
            go_wp2
            refine bodyPost_ret (v := .agg #[.int .i64 z1, .int .i64 z2]) (by simp [results, Tryd.results22, go_sem, *]) rfl ?_
            exact ⟨z1, z2, rfl, (HS.out.setNew (p := ⟨w.heap.size, 0, none⟩) hg _).setNew (p := ⟨w.heap.size, 1, none⟩) hg _, (HB.out.setNew (p := ⟨w.heap.size, 0, none⟩) (Nat.le_refl _) _).setNew (p := ⟨w.heap.size, 1, none⟩) (Nat.le_refl _) _⟩
          · skip
            go_simp
            go_at_call 20
            refine (n_any g b len cap 3 _ HS.out (by omega)).mono ?_
            rintro e v14 ⟨q2, rfl, hq0, hq1, hs, hb⟩
            obtain ⟨k2, z2, rfl, hk2, hz2⟩ := tab3 (a := (-1)) (b := 7) (c := 8) hq0 hq1
            have hp2 : (0 : Int) ≤ (k2 : Int) := Int.natCast_nonneg _
            have hu2 : (k2 : Int) < 3 := by omega
            have HZ2 := Lib.hid hz2
            have HB := Lib.hid (HB.out.trans hb)
            have HR := Lib.hid (Blk.but HR.out hb hgr)
            have HT1 := Lib.hid (Blk.but HT1.out hb (by exact hnB1))
            have HT2 := Lib.hid (Blk.but HT2.out hb (by exact hnB2))
            have HS := Lib.hid hs
            refine hK.out _ _ trivial (fun _ => ?_)
            clear hK K hs hb hq0 hq1 hz2
            refine tk 8 hHeld ?_
            refine rd2 4 9 (fun K hK => ?_) (fun K hK => ?_)
            · skip
              have cl : (v14).cell? ⟨v10.heap.size, k1, none⟩ = some (.int .i64 z1) := HT1.out.at_ k1 HZ1.out
              go_simp
              refine hK.out _ _ trivial (fun _ => ?_)
              clear hK K cl
              refine rd1 9 (fun K hK => ?_)
              have cl : (v14).cell? ⟨v10.heap.size + 1, k2, none⟩ = some (.int .i64 z2) := HT2.out.at_ k2 HZ2.out
              go_simp
              refine hK.out _ _ trivial (fun _ => ?_)
              clear hK K cl
              refine tk 10 hHeld ?_
              refine rd1 11 (fun K hK => ?_)
              have r0 := HR.out.at_ 0 rfl
              have r1 := HR.out.at_ 1 rfl
              have f0 := HR.out.soft 0
              have f1 := HR.out.soft 1
              go_simp
              refine hK.out _ _ trivial (fun _ => ?_)
              clear hK K
              refine rd0 ?_
              go_wp2
              refine bodyPost_ret (v := .agg #[.int .i64 z1, .int .i64 z2]) (by simp [results, Tryd.results22, go_sem, *]) rfl ?_
              exact ⟨z1, z2, rfl, (HS.out.setNew (p := ⟨w.heap.size, 0, none⟩) hg _).setNew (p := ⟨w.heap.size, 1, none⟩) hg _, (HB.out.setNew (p := ⟨w.heap.size, 0, none⟩) (Nat.le_refl _) _).setNew (p := ⟨w.heap.size, 1, none⟩) (Nat.le_refl _) _⟩
            · skip
              have cl : (v14).cell? ⟨v10.heap.size + 1, k2, none⟩ = some (.int .i64 z2) := HT2.out.at_ k2 HZ2.out
              go_simp
              refine hK.out _ _ trivial (fun _ => ?_)
              clear hK K cl
              refine rd1 4 (fun K hK => ?_)
              have cl : (v14).cell? ⟨v10.heap.size, k1, none⟩ = some (.int .i64 z1) := HT1.out.at_ k1 HZ1.out
              go_simp
              refine hK.out _ _ trivial (fun _ => ?_)
              clear hK K cl
              refine tk 10 hHeld ?_
              refine rd1 11 (fun K hK => ?_)
              have r0 := HR.out.at_ 0 rfl
              have r1 := HR.out.at_ 1 rfl
              have f0 := HR.out.soft 0
              have f1 := HR.out.soft 1
              go_simp
              refine hK.out _ _ trivial (fun _ => ?_)
              clear hK K
              refine rd0 ?_
              go_wp2
              refine bodyPost_ret (v := .agg #[.int .i64 z1, .int .i64 z2]) (by simp [results, Tryd.results22, go_sem, *]) rfl ?_
              exact ⟨z1, z2, rfl, (HS.out.setNew (p := ⟨w.heap.size, 0, none⟩) hg _).setNew (p := ⟨w.heap.size, 1, none⟩) hg _, (HB.out.setNew (p := ⟨w.heap.size, 0, none⟩) (Nat.le_refl _) _).setNew (p := ⟨w.heap.size, 1, none⟩) (Nat.le_refl _) _⟩
        · skip
          go_simp
          go_at_call 20
          refine (n_any g b len cap 3 _ HS.out (by omega)).mono ?_
          rintro e v15 ⟨q2, rfl, hq0, hq1, hs, hb⟩
          obtain ⟨k2, z2, rfl, hk2, hz2⟩ := tab3 (a := (-1)) (b := 7) (c := 8) hq0 hq1
          have hp2 : (0 : Int) ≤ (k2 : Int) := Int.natCast_nonneg _
          have hu2 : (k2 : Int) < 3 := by omega
          have HZ2 := Lib.hid hz2
          have HB := Lib.hid (HB.out.trans hb)
          have HR := Lib.hid (Blk.but HR.out hb hgr)
          have HT1 := Lib.hid (Blk.but HT1.out hb (by exact hnB1))
          have HS := Lib.hid hs
          refine hK.out _ _ trivial (fun _ => ?_)
          clear hK K hs hb hq0 hq1 hz2
          refine rd2 4 5 (fun K hK => ?_) (fun K hK => ?_)
          · skip
            have cl : (v15).cell? ⟨v10.heap.size, k1, none⟩ = some (.int .i64 z1) := HT1.out.at_ k1 HZ1.out
            go_simp
            refine hK.out _ _ trivial (fun _ => ?_)
            clear hK K cl
            refine rd1 5 (fun K hK => ?_)
            go_simp
            have hbA : But g (v15) (v15.alloc (.cells #[.int .i64 (-1), .int .i64 7, .int .i64 8] 2)) := (But.refl _ _).alloc _
            have hwl : w.heap.size ≤ (v15).heap.size := HB.out.size
            have HB := Lib.hid (HB.out.trans hbA)
            have HR := Lib.hid (Blk.but HR.out hbA hgr)
            have HT1 := Lib.hid (Blk.but HT1.out hbA (by exact hnB1))
            have HT2 := Lib.hid (show Blk (v15.alloc (.cells #[.int .i64 (-1), .int .i64 7, .int .i64 8] 2)) (v15.heap.size) 2 #[.int .i64 (-1), .int .i64 7, .int .i64 8] from by have h9 := Blk.new (v15) 2 #[.int .i64 (-1), .int .i64 7, .int .i64 8]; (try simp only [World.size_alloc, World.size_drew] at h9); exact h9)
            have HS := Lib.hid (HS.out.alloc (.cells #[.int .i64 (-1), .int .i64 7, .int .i64 8] 2))
            have hnB2 : v15.heap.size ≠ g := by have h9 := hwl; (try simp only [World.size_alloc, World.size_drew] at h9); omega
            refine hK.out _ _ trivial (fun _ => ?_)
            clear hK K hbA hwl
            refine tk 8 hHeld ?_
            refine rd1 9 (fun K hK => ?_)
            have cl : (v15.alloc (.cells #[.int .i64 (-1), .int .i64 7, .int .i64 8] 2)).cell? ⟨v15.heap.size, k2, none⟩ = some (.int .i64 z2) := HT2.out.at_ k2 HZ2.out
            go_simp
            refine hK.out _ _ trivial (fun _ => ?_)
            clear hK K cl
            refine tk 10 hHeld ?_
            refine rd1 11 (fun K hK => ?_)
            have r0 := HR.out.at_ 0 rfl
            have r1 := HR.out.at_ 1 rfl
            have f0 := HR.out.soft 0
            have f1 := HR.out.soft 1
            go_simp
            refine hK.out _ _ trivial (fun _ => ?_)
            clear hK K
            refine rd0 ?_
            go_wp2
            refine bodyPost_ret (v := .agg #[.int .i64 z1, .int .i64 z2]) (by simp [results, Tryd.results22, go_sem, *]) rfl ?_
            exact ⟨z1, z2, rfl, (HS.out.setNew (p := ⟨w.heap.size, 0, none⟩) hg _).setNew (p := ⟨w.heap.size, 1, none⟩) hg _, (HB.out.setNew (p := ⟨w.heap.size, 0, none⟩) (Nat.le_refl _) _).setNew (p := ⟨w.heap.size, 1, none⟩) (Nat.le_refl _) _⟩
          · skip
            go_simp
            have hbA : But g (v15) (v15.alloc (.cells #[.int .i64 (-1), .int .i64 7, .int .i64 8] 2)) := (But.refl _ _).alloc _
            have hwl : w.heap.size ≤ (v15).heap.size := HB.out.size
            have HB := Lib.hid (HB.out.trans hbA)
            have HR := Lib.hid (Blk.but HR.out hbA hgr)
            have HT1 := Lib.hid (Blk.but HT1.out hbA (by exact hnB1))
            have HT2 := Lib.hid (show Blk (v15.alloc (.cells #[.int .i64 (-1), .int .i64 7, .int .i64 8] 2)) (v15.heap.size) 2 #[.int .i64 (-1), .int .i64 7, .int .i64 8] from by have h9 := Blk.new (v15) 2 #[.int .i64 (-1), .int .i64 7, .int .i64 8]; (try simp only [World.size_alloc, World.size_drew] at h9); exact h9)
            have HS := Lib.hid (HS.out.alloc (.cells #[.int .i64 (-1), .int .i64 7, .int .i64 8] 2))
            have hnB2 : v15.heap.size ≠ g := by have h9 := hwl; (try simp only [World.size_alloc, World.size_drew] at h9); omega
            refine hK.out _ _ trivial (fun _ => ?_)
            clear hK K hbA hwl
            refine tk 8 hHeld ?_
            refine rd2 4 9 (fun K hK => ?_) (fun K hK => ?_)
            · skip
              have cl : (v15.alloc (.cells #[.int .i64 (-1), .int .i64 7, .int .i64 8] 2)).cell? ⟨v10.heap.size, k1, none⟩ = some (.int .i64 z1) := HT1.out.at_ k1 HZ1.out
              go_simp
              refine hK.out _ _ trivial (fun _ => ?_)
              clear hK K cl
              refine rd1 9 (fun K hK => ?_)
              have cl : (v15.alloc (.cells #[.int .i64 (-1), .int .i64 7, .int .i64 8] 2)).cell? ⟨v15.heap.size, k2, none⟩ = some (.int .i64 z2) := HT2.out.at_ k2 HZ2.out
              go_simp
              refine hK.out _ _ trivial (fun _ => ?_)
              clear hK K cl
              refine tk 10 hHeld ?_
              refine rd1 11 (fun K hK => ?_)
              have r0 := HR.out.at_ 0 rfl
              have r1 := HR.out.at_ 1 rfl
              have f0 := HR.out.soft 0
              have f1 := HR.out.soft 1
              go_simp
              refine hK.out _ _ trivial (fun _ => ?_)
              clear hK K
              refine rd0 ?_
              go_wp2
              refine bodyPost_ret (v := .agg #[.int .i64 z1, .int .i64 z2]) (by simp [results, Tryd.results22, go_sem, *]) rfl ?_
              exact ⟨z1, z2, rfl, (HS.out.setNew (p := ⟨w.heap.size, 0, none⟩) hg _).setNew (p := ⟨w.heap.size, 1, none⟩) hg _, (HB.out.setNew (p := ⟨w.heap.size, 0, none⟩) (Nat.le_refl _) _).setNew (p := ⟨w.heap.size, 1, none⟩) (Nat.le_refl _) _⟩
            · skip
              have cl : (v15.alloc (.cells #[.int .i64 (-1), .int .i64 7, .int .i64 8] 2)).cell? ⟨v15.heap.size, k2, none⟩ = some (.int .i64 z2) := HT2.out.at_ k2 HZ2.out
              go_simp
              refine hK.out _ _ trivial (fun _ => ?_)
              clear hK K cl
              refine rd1 4 (fun K hK => ?_)
              have cl : (v15.alloc (.cells #[.int .i64 (-1), .int .i64 7, .int .i64 8] 2)).cell? ⟨v10.heap.size, k1, none⟩ = some (.int .i64 z1) := HT1.out.at_ k1 HZ1.out
              go_simp
              refine hK.out _ _ trivial (fun _ => ?_)
              clear hK K cl
              refine tk 10 hHeld ?_
              refine rd1 11 (fun K hK => ?_)
              have r0 := HR.out.at_ 0 rfl
              have r1 := HR.out.at_ 1 rfl
              have f0 := HR.out.soft 0
              have f1 := HR.out.soft 1
              go_simp
              refine hK.out _ _ trivial (fun _ => ?_)
              clear hK K
              refine rd0 ?_
              go_wp2
              refine bodyPost_ret (v := .agg #[.int .i64 z1, .int .i64 z2]) (by simp [results, Tryd.results22, go_sem, *]) rfl ?_
              exact ⟨z1, z2, rfl, (HS.out.setNew (p := ⟨w.heap.size, 0, none⟩) hg _).setNew (p := ⟨w.heap.size, 1, none⟩) hg _, (HB.out.setNew (p := ⟨w.heap.size, 0, none⟩) (Nat.le_refl _) _).setNew (p := ⟨w.heap.size, 1, none⟩) (Nat.le_refl _) _⟩
      · skip
        go_simp
        have hbA : But g (v10) (v10.alloc (.cells #[.int .i64 (-1), .int .i64 7, .int .i64 8] 2)) := (But.refl _ _).alloc _
        have hwl : w.heap.size ≤ (v10).heap.size := HB.out.size
        have HB := Lib.hid (HB.out.trans hbA)
        have HR := Lib.hid (Blk.but HR.out hbA hgr)
        have HT2 := Lib.hid (show Blk (v10.alloc (.cells #[.int .i64 (-1), .int .i64 7, .int .i64 8] 2)) (v10.heap.size) 2 #[.int .i64 (-1), .int .i64 7, .int .i64 8] from by have h9 := Blk.new (v10) 2 #[.int .i64 (-1), .int .i64 7, .int .i64 8]; (try simp only [World.size_alloc, World.size_drew] at h9); exact h9)
        have HS := Lib.hid (HS.out.alloc (.cells #[.int .i64 (-1), .int .i64 7, .int .i64 8] 2))
        have hnB2 : v10.heap.size ≠ g := by have h9 := hwl; (try simp only [World.size_alloc, World.size_drew] at h9); omega
        refine hK.out _ _ trivial (fun _ => ?_)
        clear hK K hbA hwl
        refine rd2 0 7 (fun K hK => ?_) (fun K hK => ?_)
        · skip
          go_simp
          have hbA : But g (v10.alloc (.cells #[.int .i64 (-1), .int .i64 7, .int .i64 8] 2)) ((v10.alloc (.cells #[.int .i64 (-1), .int .i64 7, .int .i64 8] 2)).alloc (.cells #[.int .i64 (-1), .int .i64 3, .int .i64 4] 2)) := (But.refl _ _).alloc _
          have hwl : w.heap.size ≤ (v10.alloc (.cells #[.int .i64 (-1), .int .i64 7, .int .i64 8] 2)).heap.size := HB.out.size
          have HB := Lib.hid (HB.out.trans hbA)
          have HR := Lib.hid (Blk.but HR.out hbA hgr)
          have HT2 := Lib.hid (Blk.but HT2.out hbA (by exact hnB2))
          have HT1 := Lib.hid (show Blk ((v10.alloc (.cells #[.int .i64 (-1), .int .i64 7, .int .i64 8] 2)).alloc (.cells #[.int .i64 (-1), .int .i64 3, .int .i64 4] 2)) (v10.heap.size + 1) 2 #[.int .i64 (-1), .int .i64 3, .int .i64 4] from by have h9 := Blk.new (v10.alloc (.cells #[.int .i64 (-1), .int .i64 7, .int .i64 8] 2)) 2 #[.int .i64 (-1), .int .i64 3, .int .i64 4]; (try simp only [World.size_alloc, World.size_drew] at h9); exact h9)
          have HS := Lib.hid (HS.out.alloc (.cells #[.int .i64 (-1), .int .i64 3, .int .i64 4] 2))
          have hnB1 : v10.heap.size + 1 ≠ g := by have h9 := hwl; (try simp only [World.size_alloc, World.size_drew] at h9); omega
          refine hK.out _ _ trivial (fun _ => ?_)
          clear hK K hbA hwl
          refine tk 3 hHeld ?_
          refine rd2 4 7 (fun K hK => ?_) (fun K hK => ?_)
          · skip
            have cl : ((v10.alloc (.cells #[.int .i64 (-1), .int .i64 7, .int .i64 8] 2)).alloc (.cells #[.int .i64 (-1), .int .i64 3, .int .i64 4] 2)).cell? ⟨v10.heap.size + 1, k1, none⟩ = some (.int .i64 z1) := HT1.out.at_ k1 HZ1.out
            go_simp
            refine hK.out _ _ trivial (fun _ => ?_)
            clear hK K cl
            refine rd1 7 (fun K hK => ?_)
            go_simp
            go_at_call 20
            refine (n_any g b len cap 3 _ HS.out (by omega)).mono ?_
            rintro e v16 ⟨q2, rfl, hq0, hq1, hs, hb⟩
            obtain ⟨k2, z2, rfl, hk2, hz2⟩ := tab3 (a := (-1)) (b := 7) (c := 8) hq0 hq1
            have hp2 : (0 : Int) ≤ (k2 : Int) := Int.natCast_nonneg _
            have hu2 : (k2 : Int) < 3 := by omega
            have HZ2 := Lib.hid hz2
            have HB := Lib.hid (HB.out.trans hb)
            have HR := Lib.hid (Blk.but HR.out hb hgr)
            have HT1 := Lib.hid (Blk.but HT1.out hb (by exact hnB1))
            have HT2 := Lib.hid (Blk.but HT2.out hb (by exact hnB2))
            have HS := Lib.hid hs
            refine hK.out _ _ trivial (fun _ => ?_)
            clear hK K hs hb hq0 hq1 hz2
            refine tk 8 hHeld ?_
            refine rd1 9 (fun K hK => ?_)
            have cl : (v16).cell? ⟨v10.heap.size, k2, none⟩ = some (.int .i64 z2) := HT2.out.at_ k2 HZ2.out
            go_simp
            refine hK.out _ _ trivial (fun _ => ?_)
            clear hK K cl
            refine tk 10 hHeld ?_
            refine rd1 11 (fun K hK => ?_)
            have r0 := HR.out.at_ 0 rfl
            have r1 := HR.out.at_ 1 rfl
            have f0 := HR.out.soft 0
            have f1 := HR.out.soft 1
            go_simp
            refine hK.out _ _ trivial (fun _ => ?_)
            clear hK K
            refine rd0 ?_
            go_wp2
            refine bodyPost_ret (v := .agg #[.int .i64 z1, .int .i64 z2]) (by simp [results, Tryd.results22, go_sem, *]) rfl ?_
            exact ⟨z1, z2, rfl, (HS.out.setNew (p := ⟨w.heap.size, 0, none⟩) hg _).setNew (p := ⟨w.heap.size, 1, none⟩) hg _, (HB.out.setNew (p := ⟨w.heap.size, 0, none⟩) (Nat.le_refl _) _).setNew (p := ⟨w.heap.size, 1, none⟩) (Nat.le_refl _) _⟩
          · skip
            go_simp
            go_at_call 20
            refine (n_any g b len cap 3 _ HS.out (by omega)).mono ?_
            rintro e v17 ⟨q2, rfl, hq0, hq1, hs, hb⟩
            obtain ⟨k2, z2, rfl, hk2, hz2⟩ := tab3 (a := (-1)) (b := 7) (c := 8) hq0 hq1
            have hp2 : (0 : Int) ≤ (k2 : Int) := Int.natCast_nonneg _
            have hu2 : (k2 : Int) < 3 := by omega
            have HZ2 := Lib.hid hz2
            have HB := Lib.hid (HB.out.trans hb)
            have HR := Lib.hid (Blk.but HR.out hb hgr)
            have HT1 := Lib.hid (Blk.but HT1.out hb (by exact hnB1))
            have HT2 := Lib.hid (Blk.but HT2.out hb (by exact hnB2))
            have HS := Lib.hid hs
            refine hK.out _ _ trivial (fun _ => ?_)
            clear hK K hs hb hq0 hq1 hz2
            refine tk 8 hHeld ?_
            refine rd2 4 9 (fun K hK => ?_) (fun K hK => ?_)
            · skip
              have cl : (v17).cell? ⟨v10.heap.size + 1, k1, none⟩ = some (.int .i64 z1) := HT1.out.at_ k1 HZ1.out
              go_simp
              refine hK.out _ _ trivial (fun _ => ?_)
              clear hK K cl
              refine rd1 9 (fun K hK => ?_)
              have cl : (v17).cell? ⟨v10.heap.size, k2, none⟩ = some (.int .i64 z2) := HT2.out.at_ k2 HZ2.out
              go_simp
              refine hK.out _ _ trivial (fun _ => ?_)
              clear hK K cl
              refine tk 10 hHeld ?_
              refine rd1 11 (fun K hK => ?_)
              have r0 := HR.out.at_ 0 rfl
              have r1 := HR.out.at_ 1 rfl
              have f0 := HR.out.soft 0
              have f1 := HR.out.soft 1
              go_simp
              refine hK.out _ _ trivial (fun _ => ?_)
              clear hK K
              refine rd0 ?_
              go_wp2
              refine bodyPost_ret (v := .agg #[.int .i64 z1, .int .i64 z2]) (by simp [results, Tryd.results22, go_sem, *]) rfl ?_
              exact ⟨z1, z2, rfl, (HS.out.setNew (p := ⟨w.heap.size, 0, none⟩) hg _).setNew (p := ⟨w.heap.size, 1, none⟩) hg _, (HB.out.setNew (p := ⟨w.heap.size, 0, none⟩) (Nat.le_refl _) _).setNew (p := ⟨w.heap.size, 1, none⟩) (Nat.le_refl _) _⟩
            · skip
              have cl : (v17).cell? ⟨v10.heap.size, k2, none⟩ = some (.int .i64 z2) := HT2.out.at_ k2 HZ2.out
              go_simp
              refine hK.out _ _ trivial (fun _ => ?_)
              clear hK K cl
              refine rd1 4 (fun K hK => ?_)
              have cl : (v17).cell? ⟨v10.heap.size + 1, k1, none⟩ = some (.int .i64 z1) := HT1.out.at_ k1 HZ1.out
              go_simp
              refine hK.out _ _ trivial (fun _ => ?_)
              clear hK K cl
              refine tk 10 hHeld ?_
              refine rd1 11 (fun K hK => ?_)
              have r0 := HR.out.at_ 0 rfl
              have r1 := HR.out.at_ 1 rfl
              have f0 := HR.out.soft 0
              have f1 := HR.out.soft 1
              go_simp
              refine hK.out _ _ trivial (fun _ => ?_)
              clear hK K
              refine rd0 ?_
              go_wp2
              refine bodyPost_ret (v := .agg #[.int .i64 z1, .int .i64 z2]) (by simp [results, Tryd.results22, go_sem, *]) rfl ?_
              exact ⟨z1, z2, rfl, (HS.out.setNew (p := ⟨w.heap.size, 0, none⟩) hg _).setNew (p := ⟨w.heap.size, 1, none⟩) hg _, (HB.out.setNew (p := ⟨w.heap.size, 0, none⟩) (Nat.le_refl _) _).setNew (p := ⟨w.heap.size, 1, none⟩) (Nat.le_refl _) _⟩
        · skip
          go_simp
          go_at_call 20
          refine (n_any g b len cap 3 _ HS.out (by omega)).mono ?_
          rintro e v18 ⟨q2, rfl, hq0, hq1, hs, hb⟩
          obtain ⟨k2, z2, rfl, hk2, hz2⟩ := tab3 (a := (-1)) (b := 7) (c := 8) hq0 hq1
          have hp2 : (0 : Int) ≤ (k2 : Int) := Int.natCast_nonneg _
          have hu2 : (k2 : Int) < 3 := by omega
          have HZ2 := Lib.hid hz2
          have HB := Lib.hid (HB.out.trans hb)
          have HR := Lib.hid (Blk.but HR.out hb hgr)
          have HT2 := Lib.hid (Blk.but HT2.out hb (by exact hnB2))
          have HS := Lib.hid hs
          refine hK.out _ _ trivial (fun _ => ?_)
          clear hK K hs hb hq0 hq1 hz2
          refine tk 8 hHeld ?_
          refine rd2 0 9 (fun K hK => ?_) (fun K hK => ?_)
          · skip
            go_simp
            have hbA : But g (v18) (v18.alloc (.cells #[.int .i64 (-1), .int .i64 3, .int .i64 4] 2)) := (But.refl _ _).alloc _
            have hwl : w.heap.size ≤ (v18).heap.size := HB.out.size
            have HB := Lib.hid (HB.out.trans hbA)
            have HR := Lib.hid (Blk.but HR.out hbA hgr)
            have HT2 := Lib.hid (Blk.but HT2.out hbA (by exact hnB2))
            have HT1 := Lib.hid (show Blk (v18.alloc (.cells #[.int .i64 (-1), .int .i64 3, .int .i64 4] 2)) (v18.heap.size) 2 #[.int .i64 (-1), .int .i64 3, .int .i64 4] from by have h9 := Blk.new (v18) 2 #[.int .i64 (-1), .int .i64 3, .int .i64 4]; (try simp only [World.size_alloc, World.size_drew] at h9); exact h9)
            have HS := Lib.hid (HS.out.alloc (.cells #[.int .i64 (-1), .int .i64 3, .int .i64 4] 2))
            have hnB1 : v18.heap.size ≠ g := by have h9 := hwl; (try simp only [World.size_alloc, World.size_drew] at h9); omega
            refine hK.out _ _ trivial (fun _ => ?_)
            clear hK K hbA hwl
            refine tk 3 hHeld ?_
            refine rd2 4 9 (fun K hK => ?_) (fun K hK => ?_)
            · skip
              have cl : (v18.alloc (.cells #[.int .i64 (-1), .int .i64 3, .int .i64 4] 2)).cell? ⟨v18.heap.size, k1, none⟩ = some (.int .i64 z1) := HT1.out.at_ k1 HZ1.out
              go_simp
              refine hK.out _ _ trivial (fun _ => ?_)
              clear hK K cl
              refine rd1 9 (fun K hK => ?_)
              have cl : (v18.alloc (.cells #[.int .i64 (-1), .int .i64 3, .int .i64 4] 2)).cell? ⟨v10.heap.size, k2, none⟩ = some (.int .i64 z2) := HT2.out.at_ k2 HZ2.out
              go_simp
              refine hK.out _ _ trivial (fun _ => ?_)
              clear hK K cl
              refine tk 10 hHeld ?_
              refine rd1 11 (fun K hK => ?_)
              have r0 := HR.out.at_ 0 rfl
              have r1 := HR.out.at_ 1 rfl
              have f0 := HR.out.soft 0
              have f1 := HR.out.soft 1
              go_simp
              refine hK.out _ _ trivial (fun _ => ?_)
              clear hK K
              refine rd0 ?_
              go_wp2
              refine bodyPost_ret (v := .agg #[.int .i64 z1, .int .i64 z2]) (by simp [results, Tryd.results22, go_sem, *]) rfl ?_
              exact ⟨z1, z2, rfl, (HS.out.setNew (p := ⟨w.heap.size, 0, none⟩) hg _).setNew (p := ⟨w.heap.size, 1, none⟩) hg _, (HB.out.setNew (p := ⟨w.heap.size, 0, none⟩) (Nat.le_refl _) _).setNew (p := ⟨w.heap.size, 1, none⟩) (Nat.le_refl _) _⟩
            · skip
              have cl : (v18.alloc (.cells #[.int .i64 (-1), .int .i64 3, .int .i64 4] 2)).cell? ⟨v10.heap.size, k2, none⟩ = some (.int .i64 z2) := HT2.out.at_ k2 HZ2.out
              go_simp
              refine hK.out _ _ trivial (fun _ => ?_)
              clear hK K cl
              refine rd1 4 (fun K hK => ?_)
              have cl : (v18.alloc (.cells #[.int .i64 (-1), .int .i64 3, .int .i64 4] 2)).cell? ⟨v18.heap.size, k1, none⟩ = some (.int .i64 z1) := HT1.out.at_ k1 HZ1.out
              go_simp
              refine hK.out _ _ trivial (fun _ => ?_)
              clear hK K cl
              refine tk 10 hHeld ?_
              refine rd1 11 (fun K hK => ?_)
              have r0 := HR.out.at_ 0 rfl
              have r1 := HR.out.at_ 1 rfl
              have f0 := HR.out.soft 0
              have f1 := HR.out.soft 1
              go_simp
              refine hK.out _ _ trivial (fun _ => ?_)
              clear hK K
              refine rd0 ?_
              go_wp2
              refine bodyPost_ret (v := .agg #[.int .i64 z1, .int .i64 z2]) (by simp [results, Tryd.results22, go_sem, *]) rfl ?_
              exact ⟨z1, z2, rfl, (HS.out.setNew (p := ⟨w.heap.size, 0, none⟩) hg _).setNew (p := ⟨w.heap.size, 1, none⟩) hg _, (HB.out.setNew (p := ⟨w.heap.size, 0, none⟩) (Nat.le_refl _) _).setNew (p := ⟨w.heap.size, 1, none⟩) (Nat.le_refl _) _⟩
          · skip
            have cl : (v18).cell? ⟨v10.heap.size, k2, none⟩ = some (.int .i64 z2) := HT2.out.at_ k2 HZ2.out
            go_simp
            refine hK.out _ _ trivial (fun _ => ?_)
            clear hK K cl
            refine rd1 0 (fun K hK => ?_)
            go_simp
            have hbA : But g (v18) (v18.alloc (.cells #[.int .i64 (-1), .int .i64 3, .int .i64 4] 2)) := (But.refl _ _).alloc _
            have hwl : w.heap.size ≤ (v18).heap.size := HB.out.size
            have HB := Lib.hid (HB.out.trans hbA)
            have HR := Lib.hid (Blk.but HR.out hbA hgr)
            have HT2 := Lib.hid (Blk.but HT2.out hbA (by exact hnB2))
            have HT1 := Lib.hid (show Blk (v18.alloc (.cells #[.int .i64 (-1), .int .i64 3, .int .i64 4] 2)) (v18.heap.size) 2 #[.int .i64 (-1), .int .i64 3, .int .i64 4] from by have h9 := Blk.new (v18) 2 #[.int .i64 (-1), .int .i64 3, .int .i64 4]; (try simp only [World.size_alloc, World.size_drew] at h9); exact h9)
            have HS := Lib.hid (HS.out.alloc (.cells #[.int .i64 (-1), .int .i64 3, .int .i64 4] 2))
            have hnB1 : v18.heap.size ≠ g := by have h9 := hwl; (try simp only [World.size_alloc, World.size_drew] at h9); omega
            refine hK.out _ _ trivial (fun _ => ?_)
            clear hK K hbA hwl
            refine tk 3 hHeld ?_
            refine rd1 4 (fun K hK => ?_)
            have cl : (v18.alloc (.cells #[.int .i64 (-1), .int .i64 3, .int .i64 4] 2)).cell? ⟨v18.heap.size, k1, none⟩ = some (.int .i64 z1) := HT1.out.at_ k1 HZ1.out
            go_simp
            refine hK.out _ _ trivial (fun _ => ?_)
            clear hK K cl
            refine tk 10 hHeld ?_
            refine rd1 11 (fun K hK => ?_)
            have r0 := HR.out.at_ 0 rfl
            have r1 := HR.out.at_ 1 rfl
            have f0 := HR.out.soft 0
            have f1 := HR.out.soft 1
            go_simp
            refine hK.out _ _ trivial (fun _ => ?_)
            clear hK K
            refine rd0 ?_
            go_wp2
            refine bodyPost_ret (v := .agg #[.int .i64 z1, .int .i64 z2]) (by simp [results, Tryd.results22, go_sem, *]) rfl ?_
            exact ⟨z1, z2, rfl, (HS.out.setNew (p := ⟨w.heap.size, 0, none⟩) hg _).setNew (p := ⟨w.heap.size, 1, none⟩) hg _, (HB.out.setNew (p := ⟨w.heap.size, 0, none⟩) (Nat.le_refl _) _).setNew (p := ⟨w.heap.size, 1, none⟩) (Nat.le_refl _) _⟩
      · skip
        go_simp
        go_at_call 20
        refine (n_any g b len cap 3 _ HS.out (by omega)).mono ?_
        rintro e v19 ⟨q2, rfl, hq0, hq1, hs, hb⟩
        obtain ⟨k2, z2, rfl, hk2, hz2⟩ := tab3 (a := (-1)) (b := 7) (c := 8) hq0 hq1
        have hp2 : (0 : Int) ≤ (k2 : Int) := Int.natCast_nonneg _
        have hu2 : (k2 : Int) < 3 := by omega
        have HZ2 := Lib.hid hz2
        have HB := Lib.hid (HB.out.trans hb)
        have HR := Lib.hid (Blk.but HR.out hb hgr)
        have HS := Lib.hid hs
        refine hK.out _ _ trivial (fun _ => ?_)
        clear hK K hs hb hq0 hq1 hz2
        refine rd2 0 5 (fun K hK => ?_) (fun K hK => ?_)
        · skip
          go_simp
          have hbA : But g (v19) (v19.alloc (.cells #[.int .i64 (-1), .int .i64 3, .int .i64 4] 2)) := (But.refl _ _).alloc _
          have hwl : w.heap.size ≤ (v19).heap.size := HB.out.size
          have HB := Lib.hid (HB.out.trans hbA)
          have HR := Lib.hid (Blk.but HR.out hbA hgr)
          have HT1 := Lib.hid (show Blk (v19.alloc (.cells #[.int .i64 (-1), .int .i64 3, .int .i64 4] 2)) (v19.heap.size) 2 #[.int .i64 (-1), .int .i64 3, .int .i64 4] from by have h9 := Blk.new (v19) 2 #[.int .i64 (-1), .int .i64 3, .int .i64 4]; (try simp only [World.size_alloc, World.size_drew] at h9); exact h9)
          have HS := Lib.hid (HS.out.alloc (.cells #[.int .i64 (-1), .int .i64 3, .int .i64 4] 2))
          have hnB1 : v19.heap.size ≠ g := by have h9 := hwl; (try simp only [World.size_alloc, World.size_drew] at h9); omega
          refine hK.out _ _ trivial (fun _ => ?_)
          clear hK K hbA hwl
          refine tk 3 hHeld ?_
          refine rd2 4 5 (fun K hK => ?_) (fun K hK => ?_)
          · skip
            have cl : (v19.alloc (.cells #[.int .i64 (-1), .int .i64 3, .int .i64 4] 2)).cell? ⟨v19.heap.size, k1, none⟩ = some (.int .i64 z1) := HT1.out.at_ k1 HZ1.out
            go_simp
            refine hK.out _ _ trivial (fun _ => ?_)
            clear hK K cl
            refine rd1 5 (fun K hK => ?_)
            go_simp
            have hbA : But g (v19.alloc (.cells #[.int .i64 (-1), .int .i64 3, .int .i64 4] 2)) ((v19.alloc (.cells #[.int .i64 (-1), .int .i64 3, .int .i64 4] 2)).alloc (.cells #[.int .i64 (-1), .int .i64 7, .int .i64 8] 2)) := (But.refl _ _).alloc _
            have hwl : w.heap.size ≤ (v19.alloc (.cells #[.int .i64 (-1), .int .i64 3, .int .i64 4] 2)).heap.size := HB.out.size
            have HB := Lib.hid (HB.out.trans hbA)
            have HR := Lib.hid (Blk.but HR.out hbA hgr)
            have HT1 := Lib.hid (Blk.but HT1.out hbA (by exact hnB1))
            have HT2 := Lib.hid (show Blk ((v19.alloc (.cells #[.int .i64 (-1), .int .i64 3, .int .i64 4] 2)).alloc (.cells #[.int .i64 (-1), .int .i64 7, .int .i64 8] 2)) (v19.heap.size + 1) 2 #[.int .i64 (-1), .int .i64 7, .int .i64 8] from by have h9 := Blk.new (v19.alloc (.cells #[.int .i64 (-1), .int .i64 3, .int .i64 4] 2)) 2 #[.int .i64 (-1), .int .i64 7, .int .i64 8]; (try simp only [World.size_alloc, World.size_drew] at h9); exact h9)
            have HS := Lib.hid (HS.out.alloc (.cells #[.int .i64 (-1), .int .i64 7, .int .i64 8] 2))
            have hnB2 : v19.heap.size + 1 ≠ g := by have h9 := hwl; (try simp only [World.size_alloc, World.size_drew] at h9); omega
            refine hK.out _ _ trivial (fun _ => ?_)
            clear hK K hbA hwl
            refine tk 8 hHeld ?_
            refine rd1 9 (fun K hK => ?_)
            have cl : ((v19.alloc (.cells #[.int .i64 (-1), .int .i64 3, .int .i64 4] 2)).alloc (.cells #[.int .i64 (-1), .int .i64 7, .int .i64 8] 2)).cell? ⟨v19.heap.size + 1, k2, none⟩ = some (.int .i64 z2) := HT2.out.at_ k2 HZ2.out
            go_simp
            refine hK.out _ _ trivial (fun _ => ?_)
            clear hK K cl
            refine tk 10 hHeld ?_
            refine rd1 11 (fun K hK => ?_)
            have r0 := HR.out.at_ 0 rfl
            have r1 := HR.out.at_ 1 rfl
            have f0 := HR.out.soft 0
            have f1 := HR.out.soft 1
            go_simp
            refine hK.out _ _ trivial (fun _ => ?_)
            clear hK K
            refine rd0 ?_
            go_wp2
            refine bodyPost_ret (v := .agg #[.int .i64 z1, .int .i64 z2]) (by simp [results, Tryd.results22, go_sem, *]) rfl ?_
            exact ⟨z1, z2, rfl, (HS.out.setNew (p := ⟨w.heap.size, 0, none⟩) hg _).setNew (p := ⟨w.heap.size, 1, none⟩) hg _, (HB.out.setNew (p := ⟨w.heap.size, 0, none⟩) (Nat.le_refl _) _).setNew (p := ⟨w.heap.size, 1, none⟩) (Nat.le_refl _) _⟩
          · skip
            go_simp
            have hbA : But g (v19.alloc (.cells #[.int .i64 (-1), .int .i64 3, .int .i64 4] 2)) ((v19.alloc (.cells #[.int .i64 (-1), .int .i64 3, .int .i64 4] 2)).alloc (.cells #[.int .i64 (-1), .int .i64 7, .int .i64 8] 2)) := (But.refl _ _).alloc _
            have hwl : w.heap.size ≤ (v19.alloc (.cells #[.int .i64 (-1), .int .i64 3, .int .i64 4] 2)).heap.size := HB.out.size
            have HB := Lib.hid (HB.out.trans hbA)
            have HR := Lib.hid (Blk.but HR.out hbA hgr)
            have HT1 := Lib.hid (Blk.but HT1.out hbA (by exact hnB1))
            have HT2 := Lib.hid (show Blk ((v19.alloc (.cells #[.int .i64 (-1), .int .i64 3, .int .i64 4] 2)).alloc (.cells #[.int .i64 (-1), .int .i64 7, .int .i64 8] 2)) (v19.heap.size + 1) 2 #[.int .i64 (-1), .int .i64 7, .int .i64 8] from by have h9 := Blk.new (v19.alloc (.cells #[.int .i64 (-1), .int .i64 3, .int .i64 4] 2)) 2 #[.int .i64 (-1), .int .i64 7, .int .i64 8]; (try simp only [World.size_alloc, World.size_drew] at h9); exact h9)
            have HS := Lib.hid (HS.out.alloc (.cells #[.int .i64 (-1), .int .i64 7, .int .i64 8] 2))
            have hnB2 : v19.heap.size + 1 ≠ g := by have h9 := hwl; (try simp only [World.size_alloc, World.size_drew] at h9); omega
            refine hK.out _ _ trivial (fun _ => ?_)
            clear hK K hbA hwl
            refine tk 8 hHeld ?_
            refine rd2 4 9 (fun K hK => ?_) (fun K hK => ?_)
            · skip
              have cl : ((v19.alloc (.cells #[.int .i64 (-1), .int .i64 3, .int .i64 4] 2)).alloc (.cells #[.int .i64 (-1), .int .i64 7, .int .i64 8] 2)).cell? ⟨v19.heap.size, k1, none⟩ = some (.int .i64 z1) := HT1.out.at_ k1 HZ1.out
              go_simp
              refine hK.out _ _ trivial (fun _ => ?_)
              clear hK K cl
              refine rd1 9 (fun K hK => ?_)
              have cl : ((v19.alloc (.cells #[.int .i64 (-1), .int .i64 3, .int .i64 4] 2)).alloc (.cells #[.int .i64 (-1), .int .i64 7, .int .i64 8] 2)).cell? ⟨v19.heap.size + 1, k2, none⟩ = some (.int .i64 z2) := HT2.out.at_ k2 HZ2.out
              go_simp
              refine hK.out _ _ trivial (fun _ => ?_)
              clear hK K cl
              refine tk 10 hHeld ?_
              refine rd1 11 (fun K hK => ?_)
              have r0 := HR.out.at_ 0 rfl
              have r1 := HR.out.at_ 1 rfl
              have f0 := HR.out.soft 0
              have f1 := HR.out.soft 1
              go_simp
              refine hK.out _ _ trivial (fun _ => ?_)
              clear hK K
              refine rd0 ?_
              go_wp2
              refine bodyPost_ret (v := .agg #[.int .i64 z1, .int .i64 z2]) (by simp [results, Tryd.results22, go_sem, *]) rfl ?_
              exact ⟨z1, z2, rfl, (HS.out.setNew (p := ⟨w.heap.size, 0, none⟩) hg _).setNew (p := ⟨w.heap.size, 1, none⟩) hg _, (HB.out.setNew (p := ⟨w.heap.size, 0, none⟩) (Nat.le_refl _) _).setNew (p := ⟨w.heap.size, 1, none⟩) (Nat.le_refl _) _⟩
            · skip
              have cl : ((v19.alloc (.cells #[.int .i64 (-1), .int .i64 3, .int .i64 4] 2)).alloc (.cells #[.int .i64 (-1), .int .i64 7, .int .i64 8] 2)).cell? ⟨v19.heap.size + 1, k2, none⟩ = some (.int .i64 z2) := HT2.out.at_ k2 HZ2.out
              go_simp
              refine hK.out _ _ trivial (fun _ => ?_)
              clear hK K cl
              refine rd1 4 (fun K hK => ?_)
              have cl : ((v19.alloc (.cells #[.int .i64 (-1), .int .i64 3, .int .i64 4] 2)).alloc (.cells #[.int .i64 (-1), .int .i64 7, .int .i64 8] 2)).cell? ⟨v19.heap.size, k1, none⟩ = some (.int .i64 z1) := HT1.out.at_ k1 HZ1.out
              go_simp
              refine hK.out _ _ trivial (fun _ => ?_)
              clear hK K cl
              refine tk 10 hHeld ?_
              refine rd1 11 (fun K hK => ?_)
              have r0 := HR.out.at_ 0 rfl
              have r1 := HR.out.at_ 1 rfl
              have f0 := HR.out.soft 0
              have f1 := HR.out.soft 1
              go_simp
              refine hK.out _ _ trivial (fun _ => ?_)
              clear hK K
              refine rd0 ?_
              go_wp2
              refine bodyPost_ret (v := .agg #[.int .i64 z1, .int .i64 z2]) (by simp [results, Tryd.results22, go_sem, *]) rfl ?_
              exact ⟨z1, z2, rfl, (HS.out.setNew (p := ⟨w.heap.size, 0, none⟩) hg _).setNew (p := ⟨w.heap.size, 1, none⟩) hg _, (HB.out.setNew (p := ⟨w.heap.size, 0, none⟩) (Nat.le_refl _) _).setNew (p := ⟨w.heap.size, 1, none⟩) (Nat.le_refl _) _⟩
        · skip
          go_simp
          have hbA : But g (v19) (v19.alloc (.cells #[.int .i64 (-1), .int .i64 7, .int .i64 8] 2)) := (But.refl _ _).alloc _
          have hwl : w.heap.size ≤ (v19).heap.size := HB.out.size
          have HB := Lib.hid (HB.out.trans hbA)
          have HR := Lib.hid (Blk.but HR.out hbA hgr)
          have HT2 := Lib.hid (show Blk (v19.alloc (.cells #[.int .i64 (-1), .int .i64 7, .int .i64 8] 2)) (v19.heap.size) 2 #[.int .i64 (-1), .int .i64 7, .int .i64 8] from by have h9 := Blk.new (v19) 2 #[.int .i64 (-1), .int .i64 7, .int .i64 8]; (try simp only [World.size_alloc, World.size_drew] at h9); exact h9)
          have HS := Lib.hid (HS.out.alloc (.cells #[.int .i64 (-1), .int .i64 7, .int .i64 8] 2))
          have hnB2 : v19.heap.size ≠ g := by have h9 := hwl; (try simp only [World.size_alloc, World.size_drew] at h9); omega
          refine hK.out _ _ trivial (fun _ => ?_)
          clear hK K hbA hwl
          refine tk 8 hHeld ?_
          refine rd2 0 9 (fun K hK => ?_) (fun K hK => ?_)
          · skip
            go_simp
            have hbA : But g (v19.alloc (.cells #[.int .i64 (-1), .int .i64 7, .int .i64 8] 2)) ((v19.alloc (.cells #[.int .i64 (-1), .int .i64 7, .int .i64 8] 2)).alloc (.cells #[.int .i64 (-1), .int .i64 3, .int .i64 4] 2)) := (But.refl _ _).alloc _
            have hwl : w.heap.size ≤ (v19.alloc (.cells #[.int .i64 (-1), .int .i64 7, .int .i64 8] 2)).heap.size := HB.out.size
            have HB := Lib.hid (HB.out.trans hbA)
            have HR := Lib.hid (Blk.but HR.out hbA hgr)
            have HT2 := Lib.hid (Blk.but HT2.out hbA (by exact hnB2))
            have HT1 := Lib.hid (show Blk ((v19.alloc (.cells #[.int .i64 (-1), .int .i64 7, .int .i64 8] 2)).alloc (.cells #[.int .i64 (-1), .int .i64 3, .int .i64 4] 2)) (v19.heap.size + 1) 2 #[.int .i64 (-1), .int .i64 3, .int .i64 4] from by have h9 := Blk.new (v19.alloc (.cells #[.int .i64 (-1), .int .i64 7, .int .i64 8] 2)) 2 #[.int .i64 (-1), .int .i64 3, .int .i64 4]; (try simp only [World.size_alloc, World.size_drew] at h9); exact h9)
            have HS := Lib.hid (HS.out.alloc (.cells #[.int .i64 (-1), .int .i64 3, .int .i64 4] 2))
            have hnB1 : v19.heap.size + 1 ≠ g := by have h9 := hwl; (try simp only [World.size_alloc, World.size_drew] at h9); omega
            refine hK.out _ _ trivial (fun _ => ?_)
            clear hK K hbA hwl
            refine tk 3 hHeld ?_
            refine rd2 4 9 (fun K hK => ?_) (fun K hK => ?_)
            · skip
              have cl : ((v19.alloc (.cells #[.int .i64 (-1), .int .i64 7, .int .i64 8] 2)).alloc (.cells #[.int .i64 (-1), .int .i64 3, .int .i64 4] 2)).cell? ⟨v19.heap.size + 1, k1, none⟩ = some (.int .i64 z1) := HT1.out.at_ k1 HZ1.out
              go_simp
              refine hK.out _ _ trivial (fun _ => ?_)
              clear hK K cl
              refine rd1 9 (fun K hK => ?_)
              have cl : ((v19.alloc (.cells #[.int .i64 (-1), .int .i64 7, .int .i64 8] 2)).alloc (.cells #[.int .i64 (-1), .int .i64 3, .int .i64 4] 2)).cell? ⟨v19.heap.size, k2, none⟩ = some (.int .i64 z2) := HT2.out.at_ k2 HZ2.out
              go_simp
              refine hK.out _ _ trivial (fun _ => ?_)
              clear hK K cl
              refine tk 10 hHeld ?_
              refine rd1 11 (fun K hK => ?_)
              have r0 := HR.out.at_ 0 rfl
              have r1 := HR.out.at_ 1 rfl
              have f0 := HR.out.soft 0
              have f1 := HR.out.soft 1
              go_simp
              refine hK.out _ _ trivial (fun _ => ?_)
              clear hK K
              refine rd0 ?_
              go_wp2
              refine bodyPost_ret (v := .agg #[.int .i64 z1, .int .i64 z2]) (by simp [results, Tryd.results22, go_sem, *]) rfl ?_
              exact ⟨z1, z2, rfl, (HS.out.setNew (p := ⟨w.heap.size, 0, none⟩) hg _).setNew (p := ⟨w.heap.size, 1, none⟩) hg _, (HB.out.setNew (p := ⟨w.heap.size, 0, none⟩) (Nat.le_refl _) _).setNew (p := ⟨w.heap.size, 1, none⟩) (Nat.le_refl _) _⟩
            · skip
              have cl : ((v19.alloc (.cells #[.int .i64 (-1), .int .i64 7, .int .i64 8] 2)).alloc (.cells #[.int .i64 (-1), .int .i64 3, .int .i64 4] 2)).cell? ⟨v19.heap.size, k2, none⟩ = some (.int .i64 z2) := HT2.out.at_ k2 HZ2.out
              go_simp
              refine hK.out _ _ trivial (fun _ => ?_)
              clear hK K cl
              refine rd1 4 (fun K hK => ?_)
              have cl : ((v19.alloc (.cells #[.int .i64 (-1), .int .i64 7, .int .i64 8] 2)).alloc (.cells #[.int .i64 (-1), .int .i64 3, .int .i64 4] 2)).cell? ⟨v19.heap.size + 1, k1, none⟩ = some (.int .i64 z1) := HT1.out.at_ k1 HZ1.out
              go_simp
              refine hK.out _ _ trivial (fun _ => ?_)
              clear hK K cl
              refine tk 10 hHeld ?_
              refine rd1 11 (fun K hK => ?_)
              have r0 := HR.out.at_ 0 rfl
              have r1 := HR.out.at_ 1 rfl
              have f0 := HR.out.soft 0
              have f1 := HR.out.soft 1
              go_simp
              refine hK.out _ _ trivial (fun _ => ?_)
              clear hK K
              refine rd0 ?_
              go_wp2
              refine bodyPost_ret (v := .agg #[.int .i64 z1, .int .i64 z2]) (by simp [results, Tryd.results22, go_sem, *]) rfl ?_
              exact ⟨z1, z2, rfl, (HS.out.setNew (p := ⟨w.heap.size, 0, none⟩) hg _).setNew (p := ⟨w.heap.size, 1, none⟩) hg _, (HB.out.setNew (p := ⟨w.heap.size, 0, none⟩) (Nat.le_refl _) _).setNew (p := ⟨w.heap.size, 1, none⟩) (Nat.le_refl _) _⟩
          · skip
            have cl : (v19.alloc (.cells #[.int .i64 (-1), .int .i64 7, .int .i64 8] 2)).cell? ⟨v19.heap.size, k2, none⟩ = some (.int .i64 z2) := HT2.out.at_ k2 HZ2.out
            go_simp
            refine hK.out _ _ trivial (fun _ => ?_)
            clear hK K cl
            refine rd1 0 (fun K hK => ?_)
            go_simp
            have hbA : But g (v19.alloc (.cells #[.int .i64 (-1), .int .i64 7, .int .i64 8] 2)) ((v19.alloc (.cells #[.int .i64 (-1), .int .i64 7, .int .i64 8] 2)).alloc (.cells #[.int .i64 (-1), .int .i64 3, .int .i64 4] 2)) := (But.refl _ _).alloc _
            have hwl : w.heap.size ≤ (v19.alloc (.cells #[.int .i64 (-1), .int .i64 7, .int .i64 8] 2)).heap.size := HB.out.size
            have HB := Lib.hid (HB.out.trans hbA)
            have HR := Lib.hid (Blk.but HR.out hbA hgr)
            have HT2 := Lib.hid (Blk.but HT2.out hbA (by exact hnB2))
            have HT1 := Lib.hid (show Blk ((v19.alloc (.cells #[.int .i64 (-1), .int .i64 7, .int .i64 8] 2)).alloc (.cells #[.int .i64 (-1), .int .i64 3, .int .i64 4] 2)) (v19.heap.size + 1) 2 #[.int .i64 (-1), .int .i64 3, .int .i64 4] from by have h9 := Blk.new (v19.alloc (.cells #[.int .i64 (-1), .int .i64 7, .int .i64 8] 2)) 2 #[.int .i64 (-1), .int .i64 3, .int .i64 4]; (try simp only [World.size_alloc, World.size_drew] at h9); exact h9)
            have HS := Lib.hid (HS.out.alloc (.cells #[.int .i64 (-1), .int .i64 3, .int .i64 4] 2))
            have hnB1 : v19.heap.size + 1 ≠ g := by have h9 := hwl; (try simp only [World.size_alloc, World.size_drew] at h9); omega
            refine hK.out _ _ trivial (fun _ => ?_)
            clear hK K hbA hwl
            refine tk 3 hHeld ?_
            refine rd1 4 (fun K hK => ?_)
            have cl : ((v19.alloc (.cells #[.int .i64 (-1), .int .i64 7, .int .i64 8] 2)).alloc (.cells #[.int .i64 (-1), .int .i64 3, .int .i64 4] 2)).cell? ⟨v19.heap.size + 1, k1, none⟩ = some (.int .i64 z1) := HT1.out.at_ k1 HZ1.out
            go_simp
            refine hK.out _ _ trivial (fun _ => ?_)
            clear hK K cl
            refine tk 10 hHeld ?_
            refine rd1 11 (fun K hK => ?_)
            have r0 := HR.out.at_ 0 rfl
            have r1 := HR.out.at_ 1 rfl
            have f0 := HR.out.soft 0
            have f1 := HR.out.soft 1
            go_simp
            refine hK.out _ _ trivial (fun _ => ?_)
            clear hK K
            refine rd0 ?_
            go_wp2
            refine bodyPost_ret (v := .agg #[.int .i64 z1, .int .i64 z2]) (by simp [results, Tryd.results22, go_sem, *]) rfl ?_
            exact ⟨z1, z2, rfl, (HS.out.setNew (p := ⟨w.heap.size, 0, none⟩) hg _).setNew (p := ⟨w.heap.size, 1, none⟩) hg _, (HB.out.setNew (p := ⟨w.heap.size, 0, none⟩) (Nat.le_refl _) _).setNew (p := ⟨w.heap.size, 1, none⟩) (Nat.le_refl _) _⟩
    · skip
      go_simp
      have hbA : But g (w1.drew) ((w1.drew).alloc (.cells #[.int .i64 (-1), .int .i64 7, .int .i64 8] 2)) := (But.refl _ _).alloc _
      have hwl : w.heap.size ≤ (w1.drew).heap.size := HB.out.size
      have HB := Lib.hid (HB.out.trans hbA)
      have HR := Lib.hid (Blk.but HR.out hbA hgr)
      have HT2 := Lib.hid (show Blk ((w1.drew).alloc (.cells #[.int .i64 (-1), .int .i64 7, .int .i64 8] 2)) (w1.heap.size) 2 #[.int .i64 (-1), .int .i64 7, .int .i64 8] from by have h9 := Blk.new (w1.drew) 2 #[.int .i64 (-1), .int .i64 7, .int .i64 8]; (try simp only [World.size_alloc, World.size_drew] at h9); exact h9)
      have HS := Lib.hid (HS.out.alloc (.cells #[.int .i64 (-1), .int .i64 7, .int .i64 8] 2))
      have hnB2 : w1.heap.size ≠ g := by have h9 := hwl; (try simp only [World.size_alloc, World.size_drew] at h9); omega
      refine hK.out _ _ trivial (fun _ => ?_)
      clear hK K hbA hwl
      refine rd2 0 2 (fun K hK => ?_) (fun K hK => ?_)
      · skip
        go_simp
        have hbA : But g ((w1.drew).alloc (.cells #[.int .i64 (-1), .int .i64 7, .int .i64 8] 2)) (((w1.drew).alloc (.cells #[.int .i64 (-1), .int .i64 7, .int .i64 8] 2)).alloc (.cells #[.int .i64 (-1), .int .i64 3, .int .i64 4] 2)) := (But.refl _ _).alloc _
        have hwl : w.heap.size ≤ ((w1.drew).alloc (.cells #[.int .i64 (-1), .int .i64 7, .int .i64 8] 2)).heap.size := HB.out.size
        have HB := Lib.hid (HB.out.trans hbA)
        have HR := Lib.hid (Blk.but HR.out hbA hgr)
        have HT2 := Lib.hid (Blk.but HT2.out hbA (by exact hnB2))
        have HT1 := Lib.hid (show Blk (((w1.drew).alloc (.cells #[.int .i64 (-1), .int .i64 7, .int .i64 8] 2)).alloc (.cells #[.int .i64 (-1), .int .i64 3, .int .i64 4] 2)) (w1.heap.size + 1) 2 #[.int .i64 (-1), .int .i64 3, .int .i64 4] from by have h9 := Blk.new ((w1.drew).alloc (.cells #[.int .i64 (-1), .int .i64 7, .int .i64 8] 2)) 2 #[.int .i64 (-1), .int .i64 3, .int .i64 4]; (try simp only [World.size_alloc, World.size_drew] at h9); exact h9)
        have HS := Lib.hid (HS.out.alloc (.cells #[.int .i64 (-1), .int .i64 3, .int .i64 4] 2))
        have hnB1 : w1.heap.size + 1 ≠ g := by have h9 := hwl; (try simp only [World.size_alloc, World.size_drew] at h9); omega
        refine hK.out _ _ trivial (fun _ => ?_)
        clear hK K hbA hwl
        refine rd1 2 (fun K hK => ?_)
        go_simp
        go_at_call 20
        refine (n_any g b len cap 3 _ HS.out (by omega)).mono ?_
        rintro e v20 ⟨q1, rfl, hq0, hq1, hs, hb⟩
        obtain ⟨k1, z1, rfl, hk1, hz1⟩ := tab3 (a := (-1)) (b := 3) (c := 4) hq0 hq1
        have hp1 : (0 : Int) ≤ (k1 : Int) := Int.natCast_nonneg _
        have hu1 : (k1 : Int) < 3 := by omega
        have HZ1 := Lib.hid hz1
        have HB := Lib.hid (HB.out.trans hb)
        have HR := Lib.hid (Blk.but HR.out hb hgr)
        have HT1 := Lib.hid (Blk.but HT1.out hb (by exact hnB1))
        have HT2 := Lib.hid (Blk.but HT2.out hb (by exact hnB2))
        have HS := Lib.hid hs
        refine hK.out _ _ trivial (fun _ => ?_)
        clear hK K hs hb hq0 hq1 hz1
        refine tk 3 hHeld ?_
        refine rd2 4 7 (fun K hK => ?_) (fun K hK => ?_)
        · skip
          have cl : (v20).cell? ⟨w1.heap.size + 1, k1, none⟩ = some (.int .i64 z1) := HT1.out.at_ k1 HZ1.out
          go_simp
          refine hK.out _ _ trivial (fun _ => ?_)
          clear hK K cl
          refine rd1 7 (fun K hK => ?_)
          go_simp
          go_at_call 20
          refine (n_any g b len cap 3 _ HS.out (by omega)).mono ?_
          rintro e v21 ⟨q2, rfl, hq0, hq1, hs, hb⟩
          obtain ⟨k2, z2, rfl, hk2, hz2⟩ := tab3 (a := (-1)) (b := 7) (c := 8) hq0 hq1
          have hp2 : (0 : Int) ≤ (k2 : Int) := Int.natCast_nonneg _
          have hu2 : (k2 : Int) < 3 := by omega
          have HZ2 := Lib.hid hz2
          have HB := Lib.hid (HB.out.trans hb)
          have HR := Lib.hid (Blk.but HR.out hb hgr)
          have HT1 := Lib.hid (Blk.but HT1.out hb (by exact hnB1))
          have HT2 := Lib.hid (Blk.but HT2.out hb (by exact hnB2))
          have HS := Lib.hid hs
          refine hK.out _ _ trivial (fun _ => ?_)
          clear hK K hs hb hq0 hq1 hz2
          refine tk 8 hHeld ?_
          refine rd1 9 (fun K hK => ?_)
          have cl : (v21).cell? ⟨w1.heap.size, k2, none⟩ = some (.int .i64 z2) := HT2.out.at_ k2 HZ2.out
          go_simp
          refine hK.out _ _ trivial (fun _ => ?_)
          clear hK K cl
          refine tk 10 hHeld ?_
          refine rd1 11 (fun K hK => ?_)
          have r0 := HR.out.at_ 0 rfl
          have r1 := HR.out.at_ 1 rfl
          have f0 := HR.out.soft 0
          have f1 := HR.out.soft 1
          go_simp
          refine hK.out _ _ trivial (fun _ => ?_)
          clear hK K
          refine rd0 ?_
          go_wp2
          refine bodyPost_ret (v := .agg #[.int .i64 z1, .int .i64 z2]) (by simp [results, Tryd.results22, go_sem, *]) rfl ?_
          exact ⟨z1, z2, rfl, (HS.out.setNew (p := ⟨w.heap.size, 0, none⟩) hg _).setNew (p := ⟨w.heap.size, 1, none⟩) hg _, (HB.out.setNew (p := ⟨w.heap.size, 0, none⟩) (Nat.le_refl _) _).setNew (p := ⟨w.heap.size, 1, none⟩) (Nat.le_refl _) _⟩
        · skip
          go_simp
          go_at_call 20
          refine (n_any g b len cap 3 _ HS.out (by omega)).mono ?_
          rintro e v22 ⟨q2, rfl, hq0, hq1, hs, hb⟩
          obtain ⟨k2, z2, rfl, hk2, hz2⟩ := tab3 (a := (-1)) (b := 7) (c := 8) hq0 hq1
          have hp2 : (0 : Int) ≤ (k2 : Int) := Int.natCast_nonneg _
          have hu2 : (k2 : Int) < 3 := by omega
          have HZ2 := Lib.hid hz2
          have HB := Lib.hid (HB.out.trans hb)
          have HR := Lib.hid (Blk.but HR.out hb hgr)
          have HT1 := Lib.hid (Blk.but HT1.out hb (by exact hnB1))
          have HT2 := Lib.hid (Blk.but HT2.out hb (by exact hnB2))
          have HS := Lib.hid hs
          refine hK.out _ _ trivial (fun _ => ?_)
          clear hK K hs hb hq0 hq1 hz2
          refine tk 8 hHeld ?_
          refine rd2 4 9 (fun K hK => ?_) (fun K hK => ?_)
          · skip
            have cl : (v22).cell? ⟨w1.heap.size + 1, k1, none⟩ = some (.int .i64 z1) := HT1.out.at_ k1 HZ1.out
            go_simp
            refine hK.out _ _ trivial (fun _ => ?_)
            clear hK K cl
            refine rd1 9 (fun K hK => ?_)
            have cl : (v22).cell? ⟨w1.heap.size, k2, none⟩ = some (.int .i64 z2) := HT2.out.at_ k2 HZ2.out
            go_simp
            refine hK.out _ _ trivial (fun _ => ?_)
            clear hK K cl
            refine tk 10 hHeld ?_
            refine rd1 11 (fun K hK => ?_)
            have r0 := HR.out.at_ 0 rfl
            have r1 := HR.out.at_ 1 rfl
            have f0 := HR.out.soft 0
            have f1 := HR.out.soft 1
            go_simp
            refine hK.out _ _ trivial (fun _ => ?_)
            clear hK K
            refine rd0 ?_
            go_wp2
            refine bodyPost_ret (v := .agg #[.int .i64 z1, .int .i64 z2]) (by simp [results, Tryd.results22, go_sem, *]) rfl ?_
            exact ⟨z1, z2, rfl, (HS.out.setNew (p := ⟨w.heap.size, 0, none⟩) hg _).setNew (p := ⟨w.heap.size, 1, none⟩) hg _, (HB.out.setNew (p := ⟨w.heap.size, 0, none⟩) (Nat.le_refl _) _).setNew (p := ⟨w.heap.size, 1, none⟩) (Nat.le_refl _) _⟩
          · skip
            have cl : (v22).cell? ⟨w1.heap.size, k2, none⟩ = some (.int .i64 z2) := HT2.out.at_ k2 HZ2.out
            go_simp
            refine hK.out _ _ trivial (fun _ => ?_)
            clear hK K cl
            refine rd1 4 (fun K hK => ?_)
            have cl : (v22).cell? ⟨w1.heap.size + 1, k1, none⟩ = some (.int .i64 z1) := HT1.out.at_ k1 HZ1.out
            go_simp
            refine hK.out _ _ trivial (fun _ => ?_)
            clear hK K cl
            refine tk 10 hHeld ?_
            refine rd1 11 (fun K hK => ?_)
            have r0 := HR.out.at_ 0 rfl
            have r1 := HR.out.at_ 1 rfl
            have f0 := HR.out.soft 0
            have f1 := HR.out.soft 1
            go_simp
            refine hK.out _ _ trivial (fun _ => ?_)
            clear hK K
            refine rd0 ?_
            go_wp2
            refine bodyPost_ret (v := .agg #[.int .i64 z1, .int .i64 z2]) (by simp [results, Tryd.results22, go_sem, *]) rfl ?_
            exact ⟨z1, z2, rfl, (HS.out.setNew (p := ⟨w.heap.size, 0, none⟩) hg _).setNew (p := ⟨w.heap.size, 1, none⟩) hg _, (HB.out.setNew (p := ⟨w.heap.size, 0, none⟩) (Nat.le_refl _) _).setNew (p := ⟨w.heap.size, 1, none⟩) (Nat.le_refl _) _⟩
      · skip
        go_simp
        go_at_call 20
        refine (n_any g b len cap 3 _ HS.out (by omega)).mono ?_
        rintro e v23 ⟨q1, rfl, hq0, hq1, hs, hb⟩
        obtain ⟨k1, z1, rfl, hk1, hz1⟩ := tab3 (a := (-1)) (b := 3) (c := 4) hq0 hq1
        have hp1 : (0 : Int) ≤ (k1 : Int) := Int.natCast_nonneg _
        have hu1 : (k1 : Int) < 3 := by omega
        have HZ1 := Lib.hid hz1
        have HB := Lib.hid (HB.out.trans hb)
        have HR := Lib.hid (Blk.but HR.out hb hgr)
        have HT2 := Lib.hid (Blk.but HT2.out hb (by exact hnB2))
        have HS := Lib.hid hs
        refine hK.out _ _ trivial (fun _ => ?_)
        clear hK K hs hb hq0 hq1 hz1
        refine rd2 0 7 (fun K hK => ?_) (fun K hK => ?_)
        · skip
          go_simp
          have hbA : But g (v23) (v23.alloc (.cells #[.int .i64 (-1), .int .i64 3, .int .i64 4] 2)) := (But.refl _ _).alloc _
          have hwl : w.heap.size ≤ (v23).heap.size := HB.out.size
          have HB := Lib.hid (HB.out.trans hbA)
          have HR := Lib.hid (Blk.but HR.out hbA hgr)
          have HT2 := Lib.hid (Blk.but HT2.out hbA (by exact hnB2))
          have HT1 := Lib.hid (show Blk (v23.alloc (.cells #[.int .i64 (-1), .int .i64 3, .int .i64 4] 2)) (v23.heap.size) 2 #[.int .i64 (-1), .int .i64 3, .int .i64 4] from by have h9 := Blk.new (v23) 2 #[.int .i64 (-1), .int .i64 3, .int .i64 4]; (try simp only [World.size_alloc, World.size_drew] at h9); exact h9)
          have HS := Lib.hid (HS.out.alloc (.cells #[.int .i64 (-1), .int .i64 3, .int .i64 4] 2))
          have hnB1 : v23.heap.size ≠ g := by have h9 := hwl; (try simp only [World.size_alloc, World.size_drew] at h9); omega
          refine hK.out _ _ trivial (fun _ => ?_)
          clear hK K hbA hwl
          refine tk 3 hHeld ?_
          refine rd2 4 7 (fun K hK => ?_) (fun K hK => ?_)
          · skip
            have cl : (v23.alloc (.cells #[.int .i64 (-1), .int .i64 3, .int .i64 4] 2)).cell? ⟨v23.heap.size, k1, none⟩ = some (.int .i64 z1) := HT1.out.at_ k1 HZ1.out
            go_simp
            refine hK.out _ _ trivial (fun _ => ?_)
            clear hK K cl
            refine rd1 7 (fun K hK => ?_)
            go_simp
            go_at_call 20
            refine (n_any g b len cap 3 _ HS.out (by omega)).mono ?_
            rintro e v24 ⟨q2, rfl, hq0, hq1, hs, hb⟩
            obtain ⟨k2, z2, rfl, hk2, hz2⟩ := tab3 (a := (-1)) (b := 7) (c := 8) hq0 hq1
            have hp2 : (0 : Int) ≤ (k2 : Int) := Int.natCast_nonneg _
            have hu2 : (k2 : Int) < 3 := by omega
            have HZ2 := Lib.hid hz2
            have HB := Lib.hid (HB.out.trans hb)
            have HR := Lib.hid (Blk.but HR.out hb hgr)
            have HT1 := Lib.hid (Blk.but HT1.out hb (by exact hnB1))
            have HT2 := Lib.hid (Blk.but HT2.out hb (by exact hnB2))
            have HS := Lib.hid hs
            refine hK.out _ _ trivial (fun _ => ?_)
            clear hK K hs hb hq0 hq1 hz2
            refine tk 8 hHeld ?_
            refine rd1 9 (fun K hK => ?_)
            have cl : (v24).cell? ⟨w1.heap.size, k2, none⟩ = some (.int .i64 z2) := HT2.out.at_ k2 HZ2.out
            go_simp
            refine hK.out _ _ trivial (fun _ => ?_)
            clear hK K cl
            refine tk 10 hHeld ?_
            refine rd1 11 (fun K hK => ?_)
            have r0 := HR.out.at_ 0 rfl
            have r1 := HR.out.at_ 1 rfl
            have f0 := HR.out.soft 0
            have f1 := HR.out.soft 1
            go_simp
            refine hK.out _ _ trivial (fun _ => ?_)
            clear hK K
            refine rd0 ?_
            go_wp2
            refine bodyPost_ret (v := .agg #[.int .i64 z1, .int .i64 z2]) (by simp [results, Tryd.results22, go_sem, *]) rfl ?_
            exact ⟨z1, z2, rfl, (HS.out.setNew (p := ⟨w.heap.size, 0, none⟩) hg _).setNew (p := ⟨w.heap.size, 1, none⟩) hg _, (HB.out.setNew (p := ⟨w.heap.size, 0, none⟩) (Nat.le_refl _) _).setNew (p := ⟨w.heap.size, 1, none⟩) (Nat.le_refl _) _⟩
          · skip
            go_simp
            go_at_call 20
            refine (n_any g b len cap 3 _ HS.out (by omega)).mono ?_
            rintro e v25 ⟨q2, rfl, hq0, hq1, hs, hb⟩
            obtain ⟨k2, z2, rfl, hk2, hz2⟩ := tab3 (a := (-1)) (b := 7) (c := 8) hq0 hq1
            have hp2 : (0 : Int) ≤ (k2 : Int) := Int.natCast_nonneg _
            have hu2 : (k2 : Int) < 3 := by omega
            have HZ2 := Lib.hid hz2
            have HB := Lib.hid (HB.out.trans hb)
            have HR := Lib.hid (Blk.but HR.out hb hgr)
            have HT1 := Lib.hid (Blk.but HT1.out hb (by exact hnB1))
            have HT2 := Lib.hid (Blk.but HT2.out hb (by exact hnB2))
            have HS := Lib.hid hs
            refine hK.out _ _ trivial (fun _ => ?_)
            clear hK K hs hb hq0 hq1 hz2
            refine tk 8 hHeld ?_
            refine rd2 4 9 (fun K hK => ?_) (fun K hK => ?_)
            · skip
              have cl : (v25).cell? ⟨v23.heap.size, k1, none⟩ = some (.int .i64 z1) := HT1.out.at_ k1 HZ1.out
              go_simp
              refine hK.out _ _ trivial (fun _ => ?_)
              clear hK K cl
              refine rd1 9 (fun K hK => ?_)
              have cl : (v25).cell? ⟨w1.heap.size, k2, none⟩ = some (.int .i64 z2) := HT2.out.at_ k2 HZ2.out
              go_simp
              refine hK.out _ _ trivial (fun _ => ?_)
              clear hK K cl
              refine tk 10 hHeld ?_
              refine rd1 11 (fun K hK => ?_)
              have r0 := HR.out.at_ 0 rfl
              have r1 := HR.out.at_ 1 rfl
              have f0 := HR.out.soft 0
              have f1 := HR.out.soft 1
              go_simp
              refine hK.out _ _ trivial (fun _ => ?_)
              clear hK K
              refine rd0 ?_
              go_wp2
              refine bodyPost_ret (v := .agg #[.int .i64 z1, .int .i64 z2]) (by simp [results, Tryd.results22, go_sem, *]) rfl ?_
              exact ⟨z1, z2, rfl, (HS.out.setNew (p := ⟨w.heap.size, 0, none⟩) hg _).setNew (p := ⟨w.heap.size, 1, none⟩) hg _, (HB.out.setNew (p := ⟨w.heap.size, 0, none⟩) (Nat.le_refl _) _).setNew (p := ⟨w.heap.size, 1, none⟩) (Nat.le_refl _) _⟩
            · skip
              have cl : (v25).cell? ⟨w1.heap.size, k2, none⟩ = some (.int .i64 z2) := HT2.out.at_ k2 HZ2.out
              go_simp
              refine hK.out _ _ trivial (fun _ => ?_)
              clear hK K cl
              refine rd1 4 (fun K hK => ?_)
              have cl : (v25).cell? ⟨v23.heap.size, k1, none⟩ = some (.int .i64 z1) := HT1.out.at_ k1 HZ1.out
              go_simp
              refine hK.out _ _ trivial (fun _ => ?_)
              clear hK K cl
              refine tk 10 hHeld ?_
              refine rd1 11 (fun K hK => ?_)
              have r0 := HR.out.at_ 0 rfl
              have r1 := HR.out.at_ 1 rfl
              have f0 := HR.out.soft 0
              have f1 := HR.out.soft 1
              go_simp
              refine hK.out _ _ trivial (fun _ => ?_)
              clear hK K
              refine rd0 ?_
              go_wp2
              refine bodyPost_ret (v := .agg #[.int .i64 z1, .int .i64 z2]) (by simp [results, Tryd.results22, go_sem, *]) rfl ?_
              exact ⟨z1, z2, rfl, (HS.out.setNew (p := ⟨w.heap.size, 0, none⟩) hg _).setNew (p := ⟨w.heap.size, 1, none⟩) hg _, (HB.out.setNew (p := ⟨w.heap.size, 0, none⟩) (Nat.le_refl _) _).setNew (p := ⟨w.heap.size, 1, none⟩) (Nat.le_refl _) _⟩
        · skip
          go_simp
          go_at_call 20
          refine (n_any g b len cap 3 _ HS.out (by omega)).mono ?_
          rintro e v26 ⟨q2, rfl, hq0, hq1, hs, hb⟩
          obtain ⟨k2, z2, rfl, hk2, hz2⟩ := tab3 (a := (-1)) (b := 7) (c := 8) hq0 hq1
          have hp2 : (0 : Int) ≤ (k2 : Int) := Int.natCast_nonneg _
          have hu2 : (k2 : Int) < 3 := by omega
          have HZ2 := Lib.hid hz2
          have HB := Lib.hid (HB.out.trans hb)
          have HR := Lib.hid (Blk.but HR.out hb hgr)
          have HT2 := Lib.hid (Blk.but HT2.out hb (by exact hnB2))
          have HS := Lib.hid hs
          refine hK.out _ _ trivial (fun _ => ?_)
          clear hK K hs hb hq0 hq1 hz2
          refine tk 8 hHeld ?_
          refine rd2 0 9 (fun K hK => ?_) (fun K hK => ?_)
          · skip
            go_simp
            have hbA : But g (v26) (v26.alloc (.cells #[.int .i64 (-1), .int .i64 3, .int .i64 4] 2)) := (But.refl _ _).alloc _
            have hwl : w.heap.size ≤ (v26).heap.size := HB.out.size
            have HB := Lib.hid (HB.out.trans hbA)
            have HR := Lib.hid (Blk.but HR.out hbA hgr)
            have HT2 := Lib.hid (Blk.but HT2.out hbA (by exact hnB2))
            have HT1 := Lib.hid (show Blk (v26.alloc (.cells #[.int .i64 (-1), .int .i64 3, .int .i64 4] 2)) (v26.heap.size) 2 #[.int .i64 (-1), .int .i64 3, .int .i64 4] from by have h9 := Blk.new (v26) 2 #[.int .i64 (-1), .int .i64 3, .int .i64 4]; (try simp only [World.size_alloc, World.size_drew] at h9); exact h9)
            have HS := Lib.hid (HS.out.alloc (.cells #[.int .i64 (-1), .int .i64 3, .int .i64 4] 2))
            have hnB1 : v26.heap.size ≠ g := by have h9 := hwl; (try simp only [World.size_alloc, World.size_drew] at h9); omega
            refine hK.out _ _ trivial (fun _ => ?_)
            clear hK K hbA hwl
            refine tk 3 hHeld ?_
            refine rd2 4 9 (fun K hK => ?_) (fun K hK => ?_)
            · skip
              have cl : (v26.alloc (.cells #[.int .i64 (-1), .int .i64 3, .int .i64 4] 2)).cell? ⟨v26.heap.size, k1, none⟩ = some (.int .i64 z1) := HT1.out.at_ k1 HZ1.out
              go_simp
              refine hK.out _ _ trivial (fun _ => ?_)
              clear hK K cl
              refine rd1 9 (fun K hK => ?_)
              have cl : (v26.alloc (.cells #[.int .i64 (-1), .int .i64 3, .int .i64 4] 2)).cell? ⟨w1.heap.size, k2, none⟩ = some (.int .i64 z2) := HT2.out.at_ k2 HZ2.out
              go_simp
              refine hK.out _ _ trivial (fun _ => ?_)
              clear hK K cl
              refine tk 10 hHeld ?_
              refine rd1 11 (fun K hK => ?_)
              have r0 := HR.out.at_ 0 rfl
              have r1 := HR.out.at_ 1 rfl
              have f0 := HR.out.soft 0
              have f1 := HR.out.soft 1
              go_simp
              refine hK.out _ _ trivial (fun _ => ?_)
              clear hK K
              refine rd0 ?_
              go_wp2
              refine bodyPost_ret (v := .agg #[.int .i64 z1, .int .i64 z2]) (by simp [results, Tryd.results22, go_sem, *]) rfl ?_
              exact ⟨z1, z2, rfl, (HS.out.setNew (p := ⟨w.heap.size, 0, none⟩) hg _).setNew (p := ⟨w.heap.size, 1, none⟩) hg _, (HB.out.setNew (p := ⟨w.heap.size, 0, none⟩) (Nat.le_refl _) _).setNew (p := ⟨w.heap.size, 1, none⟩) (Nat.le_refl _) _⟩
            · skip
              have cl : (v26.alloc (.cells #[.int .i64 (-1), .int .i64 3, .int .i64 4] 2)).cell? ⟨w1.heap.size, k2, none⟩ = some (.int .i64 z2) := HT2.out.at_ k2 HZ2.out
              go_simp
              refine hK.out _ _ trivial (fun _ => ?_)
              clear hK K cl
              refine rd1 4 (fun K hK => ?_)
              have cl : (v26.alloc (.cells #[.int .i64 (-1), .int .i64 3, .int .i64 4] 2)).cell? ⟨v26.heap.size, k1, none⟩ = some (.int .i64 z1) := HT1.out.at_ k1 HZ1.out
              go_simp
              refine hK.out _ _ trivial (fun _ => ?_)
              clear hK K cl
              refine tk 10 hHeld ?_
              refine rd1 11 (fun K hK => ?_)
              have r0 := HR.out.at_ 0 rfl
              have r1 := HR.out.at_ 1 rfl
              have f0 := HR.out.soft 0
              have f1 := HR.out.soft 1
              go_simp
              refine hK.out _ _ trivial (fun _ => ?_)
              clear hK K
              refine rd0 ?_
              go_wp2
              refine bodyPost_ret (v := .agg #[.int .i64 z1, .int .i64 z2]) (by simp [results, Tryd.results22, go_sem, *]) rfl ?_
              exact ⟨z1, z2, rfl, (HS.out.setNew (p := ⟨w.heap.size, 0, none⟩) hg _).setNew (p := ⟨w.heap.size, 1, none⟩) hg _, (HB.out.setNew (p := ⟨w.heap.size, 0, none⟩) (Nat.le_refl _) _).setNew (p := ⟨w.heap.size, 1, none⟩) (Nat.le_refl _) _⟩
          · skip
            have cl : (v26).cell? ⟨w1.heap.size, k2, none⟩ = some (.int .i64 z2) := HT2.out.at_ k2 HZ2.out
            go_simp
            refine hK.out _ _ trivial (fun _ => ?_)
            clear hK K cl
            refine rd1 0 (fun K hK => ?_)
            go_simp
            have hbA : But g (v26) (v26.alloc (.cells #[.int .i64 (-1), .int .i64 3, .int .i64 4] 2)) := (But.refl _ _).alloc _
            have hwl : w.heap.size ≤ (v26).heap.size := HB.out.size
            have HB := Lib.hid (HB.out.trans hbA)
            have HR := Lib.hid (Blk.but HR.out hbA hgr)
            have HT2 := Lib.hid (Blk.but HT2.out hbA (by exact hnB2))
            have HT1 := Lib.hid (show Blk (v26.alloc (.cells #[.int .i64 (-1), .int .i64 3, .int .i64 4] 2)) (v26.heap.size) 2 #[.int .i64 (-1), .int .i64 3, .int .i64 4] from by have h9 := Blk.new (v26) 2 #[.int .i64 (-1), .int .i64 3, .int .i64 4]; (try simp only [World.size_alloc, World.size_drew] at h9); exact h9)
            have HS := Lib.hid (HS.out.alloc (.cells #[.int .i64 (-1), .int .i64 3, .int .i64 4] 2))
            have hnB1 : v26.heap.size ≠ g := by have h9 := hwl; (try simp only [World.size_alloc, World.size_drew] at h9); omega
            refine hK.out _ _ trivial (fun _ => ?_)
            clear hK K hbA hwl
            refine tk 3 hHeld ?_
            refine rd1 4 (fun K hK => ?_)
            have cl : (v26.alloc (.cells #[.int .i64 (-1), .int .i64 3, .int .i64 4] 2)).cell? ⟨v26.heap.size, k1, none⟩ = some (.int .i64 z1) := HT1.out.at_ k1 HZ1.out
            go_simp
            refine hK.out _ _ trivial (fun _ => ?_)
            clear hK K cl
            refine tk 10 hHeld ?_
            refine rd1 11 (fun K hK => ?_)
            have r0 := HR.out.at_ 0 rfl
            have r1 := HR.out.at_ 1 rfl
            have f0 := HR.out.soft 0
            have f1 := HR.out.soft 1
            go_simp
            refine hK.out _ _ trivial (fun _ => ?_)
            clear hK K
            refine rd0 ?_
            go_wp2
            refine bodyPost_ret (v := .agg #[.int .i64 z1, .int .i64 z2]) (by simp [results, Tryd.results22, go_sem, *]) rfl ?_
            exact ⟨z1, z2, rfl, (HS.out.setNew (p := ⟨w.heap.size, 0, none⟩) hg _).setNew (p := ⟨w.heap.size, 1, none⟩) hg _, (HB.out.setNew (p := ⟨w.heap.size, 0, none⟩) (Nat.le_refl _) _).setNew (p := ⟨w.heap.size, 1, none⟩) (Nat.le_refl _) _⟩
end Go.Proofs.YtphklknaagjmpaaDoor.DrawC
end
section
namespace Go.Proofs.YtphklknaagjmpaaDoor.LabC
open Go.RowKit
def rP (l s : Int) : Prop := 0 ≤ l ∧ l ≤ 3 ∧ 0 ≤ s ∧ s ≤ 7
def rB (l s : Int) : Bool := decide (0 ≤ l) && (decide (l ≤ 3) && (decide (0 ≤ s) && decide (s ≤ 7)))
theorem rB_iff (l s : Int) : rB l s = true ↔ rP l s := by unfold rB rP; simp
def isB (n lo hi : Int) : Bool := decide (lo ≤ n) && decide (n ≤ hi)
def lab (l s : Int) : Value := .agg #[.int .i64 l, .int .i64 s]
theorem is_any (n lo hi : Int) (w : World) :
    Calls Tryd.prog 26 #[.int .i64 n, .int .i64 lo, .int .i64 hi] w fun e w' => e = .returned (.bool (isB n lo hi)) ∧ w = w' := by
  by_cases h1 : lo ≤ n
  · by_cases h2 : n ≤ hi
    · have hb : isB n lo hi = true := by simp [isB, h1, h2]
      rw [hb]; clear hb
      go_enter Tryd.func26, Tryd.ntmps26
      go_wp2
      go_ret
      exact ⟨rfl, rfl⟩
    · have hb : isB n lo hi = false := by simp [isB, h1, h2]
      rw [hb]; clear hb
      have h2' : decide (n ≤ hi) = false := by simpa using h2
      go_enter Tryd.func26, Tryd.ntmps26
      go_wp2
      go_ret
      exact ⟨rfl, rfl⟩
  · have hb : isB n lo hi = false := by simp [isB, h1]
    rw [hb]; clear hb
    have h1' : decide (lo ≤ n) = false := by simpa using h1
    go_enter Tryd.func26, Tryd.ntmps26
    go_wp2
    go_ret
    exact ⟨rfl, rfl⟩
def labO (l s : Int) : Obj := .cells #[.int .i64 l, .int .i64 s] 27
theorem right_spec (l s : Int) (w : World) :
    Calls Tryd.prog 31 #[lab l s] w fun e w' => e = .returned (.bool (rB l s)) ∧ w.alloc (labO l s) = w' := by
  unfold lab
  by_cases h1 : isB l 0 3 = true
  · have hb : rB l s = isB s 0 7 := by simp [isB] at h1; simp [rB, isB, h1]
    rw [hb]; clear hb
    go_enter Tryd.func31, Tryd.ntmps31
    go_wp2_with (go_at_call 26; refine (is_any _ _ _ _).mono ?_; rintro e w' ⟨rfl, rfl⟩)
    go_ret
    exact ⟨rfl, rfl⟩
  · have h1' : isB l 0 3 = false := by simpa using h1
    have hb : rB l s = false := by
      simp [isB] at h1; simp [rB]; omega
    rw [hb]; clear hb h1
    go_enter Tryd.func31, Tryd.ntmps31
    go_wp2_with (go_at_call 26; refine (is_any _ _ _ _).mono ?_; rintro e w' ⟨rfl, rfl⟩)
    go_ret
    exact ⟨rfl, rfl⟩
theorem le_f {a b : Int} (h : ¬ a ≤ b) : decide (a ≤ b) = false := by simpa using h
theorem right_impl (l s : Int) (w : World) :
    Calls Tryd.prog 29 #[lab l s] w fun e w' => e = .returned (.bool (rB l s)) ∧ w.alloc (labO l s) = w' := by
  unfold lab
  by_cases h1 : 0 ≤ l
  · by_cases h2 : l ≤ 3
    · by_cases h3 : 0 ≤ s
      · by_cases h4 : s ≤ 7
        · have hb : rB l s = true := by rw [rB_iff]; exact ⟨h1, h2, h3, h4⟩
          rw [hb]; clear hb
          go_enter Tryd.func29, Tryd.ntmps29
          go_wp2
          go_ret
          exact ⟨rfl, rfl⟩
        · have hb : rB l s = false := by simp [rB]; omega
          rw [hb]; clear hb
          have g := le_f h4
          go_enter Tryd.func29, Tryd.ntmps29
          go_wp2
          go_ret
          exact ⟨rfl, rfl⟩
      · have hb : rB l s = false := by simp [rB]; omega
        rw [hb]; clear hb
        have g := le_f h3
        go_enter Tryd.func29, Tryd.ntmps29
        go_wp2
        go_ret
        exact ⟨rfl, rfl⟩
    · have hb : rB l s = false := by simp [rB]; omega
      rw [hb]; clear hb
      have g := le_f h2
      go_enter Tryd.func29, Tryd.ntmps29
      go_wp2
      go_ret
      exact ⟨rfl, rfl⟩
  · have hb : rB l s = false := by simp [rB]; omega
    rw [hb]; clear hb
    have g := le_f h1
    go_enter Tryd.func29, Tryd.ntmps29
    go_wp2
    go_ret
    exact ⟨rfl, rfl⟩
def minV (a b : Int) : Int := if a < b then a else b
def bB (l s m t : Int) : Bool := decide (l ≤ m) && (bits BinOp.and IntKind.i64 s t == s)
theorem below2_spec (l s m t : Int) (w : World) :
    Calls Tryd.prog 32 #[lab l s, lab m t] w fun e w' => e = .returned (.bool (bB l s m t)) ∧ (w.alloc (labO l s)).alloc (labO m t) = w' := by
  unfold lab
  by_cases h : l ≤ m
  · have hb : bB l s m t = (bits BinOp.and IntKind.i64 s t == s) := by simp [bB, h]
    rw [hb]; clear hb
    go_enter Tryd.func32, Tryd.ntmps32
    go_wp2
    go_ret
    exact ⟨rfl, rfl⟩
  · have hb : bB l s m t = false := by simp [bB, h]
    rw [hb]; clear hb
    have g := le_f h
    go_enter Tryd.func32, Tryd.ntmps32
    go_wp2
    go_ret
    exact ⟨rfl, rfl⟩
def meetV (l s m t : Int) : Value := if rB l s = true ∧ rB m t = true then lab (minV l m) (bits BinOp.and IntKind.i64 s t) else lab 0 0
theorem min_lt {a b : Int} (h : a < b) : a = minV a b := by unfold minV; split <;> omega
theorem min_ge {a b : Int} (h : b ≤ a) : b = minV a b := by unfold minV; split <;> omega
end Go.Proofs.YtphklknaagjmpaaDoor.LabC
end
section
namespace Go.Proofs.YtphklknaagjmpaaDoor.LabC
open Go.RowKit
theorem meet_yes {l s m t : Int} (h1 : rB l s = true) (h2 : rB m t = true) : meetV l s m t = lab (minV l m) (bits BinOp.and IntKind.i64 s t) := by unfold meetV; rw [if_pos ⟨h1, h2⟩]
theorem meet_no1 {l s m t : Int} (h1 : rB l s = false) : meetV l s m t = .agg #[.int .i64 0, .int .i64 0] := by unfold meetV; rw [if_neg (by simp [h1])]; rfl
theorem meet_no2 {l s m t : Int} (h1 : rB m t = false) : meetV l s m t = .agg #[.int .i64 0, .int .i64 0] := by unfold meetV; rw [if_neg (by simp [h1])]; rfl
set_option maxRecDepth 100000 in
set_option maxHeartbeats 1600000 in
theorem meet_impl (l s m t : Int) (w : World) :
    Calls Tryd.prog 73 #[lab l s, lab m t] w fun e w' => e = .returned (meetV l s m t) ∧ Below w.heap.size w w' := by
  by_cases h1 : rB l s = true
  · by_cases h2 : rB m t = true
    · rw [meet_yes h1 h2]
      unfold lab
      go_enter Tryd.func73, Tryd.ntmps73
      go_wp2_with (go_at_call 29; refine (right_impl _ _ _).mono ?_; unfold labO; rintro e w1 ⟨rfl, rfl⟩)
      all_goals
        refine bodyPost_ret (v := .agg #[.int .i64 (minV l m), .int .i64 (bits BinOp.and IntKind.i64 s t)]) (by simp [results, Tryd.results73, go_sem]; first | exact min_lt ‹_› | exact min_ge ‹_› | (unfold minV; split <;> omega)) rfl ⟨rfl, ?_⟩
        repeat (first | exact Below.refl _ _ | refine Below.setCell ?_ (by simp <;> omega) _ | refine Below.drew ?_ | refine Below.alloc ?_ (by simp <;> omega) _)
    · have h2' : rB m t = false := by simpa using h2
      rw [meet_no2 h2']
      clear h2
      unfold lab
      go_enter Tryd.func73, Tryd.ntmps73
      go_wp2_with (go_at_call 29; refine (right_impl _ _ _).mono ?_; unfold labO; rintro e w1 ⟨rfl, rfl⟩)
      refine bodyPost_ret (v := .agg #[.int .i64 0, .int .i64 0]) (by simp [results, Tryd.results73, go_sem]) rfl ⟨rfl, ?_⟩
      repeat (first | exact Below.refl _ _ | refine Below.setCell ?_ (by simp <;> omega) _ | refine Below.drew ?_ | refine Below.alloc ?_ (by simp <;> omega) _)
  · have h1' : rB l s = false := by simpa using h1
    rw [meet_no1 h1']
    clear h1
    unfold lab
    go_enter Tryd.func73, Tryd.ntmps73
    go_wp2_with (go_at_call 29; refine (right_impl _ _ _).mono ?_; unfold labO; rintro e w1 ⟨rfl, rfl⟩)
    refine bodyPost_ret (v := .agg #[.int .i64 0, .int .i64 0]) (by simp [results, Tryd.results73, go_sem]) rfl ⟨rfl, ?_⟩
    repeat (first | exact Below.refl _ _ | refine Below.setCell ?_ (by simp <;> omega) _ | refine Below.drew ?_ | refine Below.alloc ?_ (by simp <;> omega) _)
end Go.Proofs.YtphklknaagjmpaaDoor.LabC
end
section
namespace Go.Proofs.YtphklknaagjmpaaDoor.RepC
open Go.RowKit RowC ValC
set_option linter.unusedVariables false
set_option linter.unusedSimpArgs false
theorem Blk.off {w w' : World} {g : Nat} {t : TypeId} {cs : Array Value} {S : Nat → Prop} (h : Blk w g t cs) (ho : Off S w w') (hg : g < w.heap.size) (hS : ¬ S g) : Blk w' g t cs := (ho.block g hg hS).trans h
end Go.Proofs.YtphklknaagjmpaaDoor.RepC
end
section
namespace Go.Proofs.YtphklknaagjmpaaDoor.RepC
open Go.RowKit RowC ValC
set_option linter.unusedVariables false
set_option linter.unusedSimpArgs false
abbrev D_Label : Type := (Int) × (Int)
def R_Label : Rp D_Label := (Pr I I)
theorem R_Label_ok : Ok R_Label := (Pr_ok I_ok I_ok)
end Go.Proofs.YtphklknaagjmpaaDoor.RepC
end
section
namespace Go.Proofs.YtphklknaagjmpaaDoor.RepC
open Go.RowKit RowC ValC
set_option linter.unusedVariables false
set_option maxRecDepth 100000
structure App {α : Type} (E : Rp α) (w : World) (lo hi : Nat) (T : TypeId) (v : Value) (L : List α) (xs : List Value) (Sf : Nat → Nat → Prop) : Prop where
  own : w.ownsRow lo T E.size v L.length xs
  el : ∀ i x, L[i]? = some x → ∃ us, (∀ j c, us[j]? = some c → xs[i * E.size + j]? = some c) ∧ E.ow w (Sf i) x us
  sub : ∀ i k, Sf i k → lo ≤ k ∧ k < hi ∧ v.ownBlock ≠ some k
  dis : ∀ i j k, i < j → Sf i k → ¬ Sf j k
  blk : ∀ k, v.ownBlock = some k → lo ≤ k ∧ k < hi
  le : hi ≤ w.heap.size
section
variable {α : Type} {E : Rp α} {w w' : World} {lo hi : Nat} {T : TypeId} {v : Value} {L : List α} {xs : List Value} {Sf : Nat → Nat → Prop}
theorem App.none_ (E : Rp α) (w : World) {lo hi : Nat} (T : TypeId) (h : hi ≤ w.heap.size) : App E w lo hi T (.slice none 0 0) [] [] (fun _ _ => False) :=
  ⟨⟨by simp, .inl ⟨rfl, rfl⟩⟩, fun i x hx => by simp at hx, fun i k h => h.elim, fun i j k _ h => h.elim, fun k hk => (by cases hk), h⟩
theorem App.made (E : Rp α) (w : World) (T : TypeId) : App E (w.alloc (.cells #[] T)) w.heap.size (w.heap.size + 1) T (.slice (some ⟨w.heap.size, 0, none⟩) 0 0) [] [] (fun _ _ => False) :=
  ⟨⟨by simp, .inr ⟨w.heap.size, 0, #[], rfl, Nat.le_refl _, heap_alloc_new w _, Nat.le_refl _, Nat.zero_le _, by simp, by simp⟩⟩, fun i x hx => by simp at hx, fun i k h => h.elim, fun i j k _ h => h.elim, fun k hk => (by cases hk; exact ⟨Nat.le_refl _, Nat.lt_succ_self _⟩), by simp⟩
theorem App.mv (hE : Ok E) (h : App E w lo hi T v L xs Sf) (hs : w.heap.size ≤ w'.heap.size) (hb : ∀ k, lo ≤ k → k < hi → w'.heap[k]? = w.heap[k]?) : App E w' lo hi T v L xs Sf := by
  refine ⟨?_, fun i x hx => ?_, h.sub, h.dis, h.blk, Nat.le_trans h.le hs⟩
  · obtain ⟨h1, h2⟩ := h.own
    refine ⟨h1, ?_⟩
    rcases h2 with h2 | ⟨g, cap, cur, rfl, hlo, hg, h3⟩
    · exact .inl h2
    · have := h.blk g rfl
      exact .inr ⟨g, cap, cur, rfl, hlo, (hb g this.1 this.2).trans hg, h3⟩
  · obtain ⟨us, h1, h2⟩ := h.el i x hx
    exact ⟨us, h1, hE.ow_keep h2 fun k hk => hb k (h.sub i k hk).1 (h.sub i k hk).2.1⟩
theorem App.call (hE : Ok E) (h : App E w lo hi T v L xs Sf) (hb : Below w.heap.size w w') : App E w' lo hi T v L xs Sf := h.mv hE hb.size fun k _ hk => hb.block k (Nat.lt_of_lt_of_le hk h.le)
theorem App.isSlice (h : App E w lo hi T v L xs Sf) : ∃ a cap, v = .slice a L.length cap := by
  obtain ⟨_, h2⟩ := h.own
  rcases h2 with ⟨rfl, h0⟩ | ⟨g, cap, cur, rfl, _⟩
  · exact ⟨none, 0, by rw [h0]⟩
  · exact ⟨_, _, rfl⟩
theorem App.done (h : App E w lo hi T v L xs Sf) : ∃ a cap, v = .slice a L.length cap ∧ OwSl E w (Rg lo hi) L a cap := by
  obtain ⟨hx, h2⟩ := h.own
  rcases h2 with ⟨rfl, h0⟩ | ⟨g, cap, cur, rfl, hlo, hg, hn, hm, hc, ht⟩
  · have : L = [] := List.eq_nil_of_length_eq_zero h0
    subst this
    exact ⟨none, 0, rfl, Nat.le_refl _, Nat.zero_le _, fun h => absurd h (Nat.lt_irrefl _)⟩
  · have hb := h.blk g rfl
    refine ⟨_, cap, rfl, hn, hm, fun _ => ⟨g, Sf, rfl, ⟨hb.1, hb.2⟩, fun j => by simp [World.frozen?, hg], fun i k hk => ⟨⟨(h.sub i k hk).1, (h.sub i k hk).2.1⟩, fun e => (h.sub i k hk).2.2 (by rw [e]; rfl)⟩, h.dis, fun i x hi => ?_⟩⟩
    obtain ⟨us, h1, h3⟩ := h.el i x hi
    refine ⟨us, fun j c hj => ?_, h3⟩
    have h4 := h1 j c hj
    rw [← ht] at h4
    have h5 : cur.toList[i * E.size + j]? = some c := by
      rw [List.getElem?_take] at h4
      split at h4
      · exact h4
      · cases h4
    exact (cell_of_row w g _ cur _ _ hg).trans (by simpa using h5)
theorem App.app2 {P : Program} (hE : Ok E) (h : App E w lo hi T v L xs Sf) {t ty : TypeId} {i : TypeInfo} {z : Value} {bytes : Nat} (ht : P.underlying t = some (.slice T)) (hi' : P.info? T = some i) (hz : i.zero = some z) (hsize : i.size = E.size) (hby : i.bytes = bytes) (hzs : z.cells.size = E.size) (hpos : 0 < E.size)
    {x : α} {us : List Value} {Sx : Nat → Prop} {blk c : Nat} (hrow : ∀ j u, us[j]? = some u → w.cell? ⟨blk, j, none⟩ = some u) (hx : E.ow w Sx x us) (hS : ∀ k, Sx k → hi ≤ k ∧ k < w.heap.size) (hlo : lo ≤ hi) (hL : L.length + 1 ≤ maxLen) (hLb : (L.length + 1) * bytes ≤ 140737488355328) :
    ∃ v' w' xs' Sf', (Builtin.append_ #[t, t] ty #[v, .slice (some ⟨blk, 0, none⟩) 1 c]).run P w = .ok v' w' ∧ App E w' lo w'.heap.size T v' (L ++ [x]) xs' Sf' ∧ w.grownBy w' v.ownBlock ∧ (∀ k, v'.ownBlock = some k → v.ownBlock = some k ∨ k = w.heap.size) ∧ (∀ i k, Sf' i k → Sf i k ∨ Sx k) := by
  have hul := hE.ow_len hx
  obtain ⟨v', w', hrun, hown, hg, _, hat⟩ := run_append_own_at (P := P) w lo t ty T i z E.size bytes ht hi' hz hsize hby hzs hpos v L.length xs h.own ⟨blk, 0, none⟩ 1 c us (by rw [hul, Nat.one_mul])
    (fun j u hj => by
      have hadd : (⟨blk, 0, none⟩ : Addr).add j = ⟨blk, j, none⟩ := by unfold Addr.add; split <;> simp_all
      rw [hadd]
      exact hrow j u hj) (hE.one (hE.ow_rd (B := w.heap.size) hx fun k hk => (hS k hk).2)) hL hLb (Nat.le_trans hlo h.le)
  have hsz := hg.size
  have hle := h.le
  have hxl : xs.length = L.length * E.size := h.own.1
  have hnb : ∀ k, hi ≤ k → some k ≠ v.ownBlock := fun k hk e => by have := (h.blk k e.symm).2; omega
  refine ⟨v', w', xs ++ us, fun q k => if q = L.length then Sx k else Sf q k, hrun, ⟨by rw [List.length_append]; exact hown, fun q y hy => ?_, fun q k hk => ?_, fun q r k hqr hk => ?_, fun k hk => ?_, Nat.le_refl _⟩, hg, fun k hk => ?_, fun q k hk => ?_⟩
  · by_cases hq : q < L.length
    · rw [List.getElem?_append_left hq] at hy
      obtain ⟨vs, h1, h2⟩ := h.el q y hy
      refine ⟨vs, fun j d hj => ?_, ?_⟩
      · have h3 := h1 j d hj
        rw [List.getElem?_append_left (List.getElem?_eq_some_iff.1 h3).1]
        exact h3
      · simp only [show ¬ q = L.length from by omega, if_false]
        exact hE.ow_keep h2 fun k hk => hg.block k (Nat.lt_of_lt_of_le (h.sub q k hk).2.1 hle) (fun e => (h.sub q k hk).2.2 e.symm)
    · rw [List.getElem?_append_right (by omega)] at hy
      have hq2 : q = L.length := by
        have := (List.getElem?_eq_some_iff.1 hy).1
        simp at this
        omega
      subst hq2
      simp at hy
      subst hy
      refine ⟨us, fun j d hj => ?_, ?_⟩
      · rw [List.getElem?_append_right (by omega), hxl, Nat.add_sub_cancel_left]
        exact hj
      · simp only [if_true]
        exact hE.ow_keep hx fun k hk => hg.block k (hS k hk).2 (hnb k (hS k hk).1)
  · have hne : ∀ k, k < w.heap.size → v.ownBlock ≠ some k → v'.ownBlock ≠ some k := fun k hk hn e => by
      rcases hat with e2 | e2
      · exact hn (e2 ▸ e)
      · rw [e2] at e
        cases e
        omega
    by_cases hq : q = L.length
    · simp only [hq, if_true] at hk
      have := hS k hk
      exact ⟨by omega, by omega, hne k this.2 (fun e => hnb k this.1 e.symm)⟩
    · simp only [hq, if_false] at hk
      have := h.sub q k hk
      exact ⟨this.1, by omega, hne k (by omega) this.2.2⟩
  · by_cases hq : q = L.length
    · simp only [hq, if_true] at hk
      simp only [show ¬ r = L.length from by omega, if_false]
      intro h2
      have h3 := (h.sub r k h2).2.1
      have h4 := (hS k hk).1
      omega
    · simp only [hq, if_false] at hk
      by_cases hr : r = L.length
      · simp only [hr, if_true]
        intro h2
        have h3 := (h.sub q k hk).2.1
        have h4 := (hS k h2).1
        omega
      · simp only [hr, if_false]
        exact h.dis q r k hqr hk
  · rcases hat with e2 | e2
    · rw [e2] at hk
      have := h.blk k hk
      omega
    · rw [e2] at hk
      cases hk
      rcases hown.2 with ⟨hn, h0⟩ | ⟨g, cap, cur, hv, hlog, hgg, _⟩
      · rw [hn] at e2
        cases e2
      · rw [hv] at e2
        cases e2
        exact ⟨hlog, (Array.getElem?_eq_some_iff.1 hgg).1⟩
  · rcases hat with e2 | e2
    · exact .inl (e2 ▸ hk)
    · rw [e2] at hk
      cases hk
      exact .inr rfl
  · by_cases hq : q = L.length
    · simp only [hq, if_true] at hk
      exact .inr hk
    · simp only [hq, if_false] at hk
      exact .inl hk
theorem App.app {P : Program} (hE : Ok E) (h : App E w lo hi T v L xs Sf) {t ty : TypeId} {i : TypeInfo} {z : Value} {bytes : Nat} (ht : P.underlying t = some (.slice T)) (hi' : P.info? T = some i) (hz : i.zero = some z) (hsize : i.size = E.size) (hby : i.bytes = bytes) (hzs : z.cells.size = E.size) (hpos : 0 < E.size)
    {x : α} {us : List Value} {Sx : Nat → Prop} {blk c : Nat} (hrow : ∀ j u, us[j]? = some u → w.cell? ⟨blk, j, none⟩ = some u) (hx : E.ow w Sx x us) (hS : ∀ k, Sx k → hi ≤ k ∧ k < w.heap.size) (hlo : lo ≤ hi) (hL : L.length + 1 ≤ maxLen) (hLb : (L.length + 1) * bytes ≤ 140737488355328) :
    ∃ v' w' xs' Sf', (Builtin.append_ #[t, t] ty #[v, .slice (some ⟨blk, 0, none⟩) 1 c]).run P w = .ok v' w' ∧ App E w' lo w'.heap.size T v' (L ++ [x]) xs' Sf' ∧ w.grownBy w' v.ownBlock := by
  obtain ⟨v', w', xs', Sf', h1, h2, h3, _⟩ := h.app2 (ty := ty) (c := c) hE ht hi' hz hsize hby hzs hpos hrow hx hS hlo hL hLb
  exact ⟨v', w', xs', Sf', h1, h2, h3⟩
theorem App.mv2 (hE : Ok E) (h : App E w lo hi T v L xs Sf) (hs : w.heap.size ≤ w'.heap.size) (hb : ∀ k, v.ownBlock = some k → w'.heap[k]? = w.heap[k]?) (hb2 : ∀ i k, Sf i k → w'.heap[k]? = w.heap[k]?) : App E w' lo hi T v L xs Sf := by
  refine ⟨?_, fun i x hx => ?_, h.sub, h.dis, h.blk, Nat.le_trans h.le hs⟩
  · obtain ⟨h1, h2⟩ := h.own
    refine ⟨h1, ?_⟩
    rcases h2 with h2 | ⟨g, cap, cur, rfl, hlo, hg, h3⟩
    · exact .inl h2
    · exact .inr ⟨g, cap, cur, rfl, hlo, (hb g rfl).trans hg, h3⟩
  · obtain ⟨us, h1, h2⟩ := h.el i x hx
    exact ⟨us, h1, hE.ow_keep h2 fun k hk => hb2 i k hk⟩
end
structure Flat {α : Type} (E : Rp α) (f : α → List Value) : Prop where
  rd : ∀ {W B x us}, E.rd W B x us → us = f x
  ow : ∀ (W : World) (S : Nat → Prop) (x : α), E.ow W S x (f x)
end Go.Proofs.YtphklknaagjmpaaDoor.RepC
end
section
namespace Go.Proofs.YtphklknaagjmpaaDoor.RepC
open Go.RowKit RowC ValC
set_option linter.unusedVariables false
set_option linter.unusedSimpArgs false
abbrev D_Letter : Type := (D_Label) × (D_Label) × (Int) × (Int)
def R_Letter : Rp D_Letter := (Pr R_Label (Pr R_Label (Pr I I)))
theorem R_Letter_ok : Ok R_Letter := (Pr_ok R_Label_ok (Pr_ok R_Label_ok (Pr_ok I_ok I_ok)))
theorem rd_Letter {W : World} {B : Nat} {x0 : Int} {x1 : Int} {x2 : Int} {x3 : Int} {x4 : Int} {x5 : Int} {cs : List Value} (h : R_Letter.rd W B ((x0, x1), (x2, x3), x4, x5) cs) : cs = [.int .i64 x0, .int .i64 x1, .int .i64 x2, .int .i64 x3, .int .i64 x4, .int .i64 x5] := by
  obtain ⟨u1, v1, rfl, h1, g1⟩ := h
  obtain ⟨u2, v2, rfl, h2, g2⟩ := h1
  obtain rfl : u2 = [_] := h2
  obtain rfl : v2 = [_] := g2
  obtain ⟨u3, v3, rfl, h3, g3⟩ := g1
  obtain ⟨u4, v4, rfl, h4, g4⟩ := h3
  obtain rfl : u4 = [_] := h4
  obtain rfl : v4 = [_] := g4
  obtain ⟨u5, v5, rfl, h5, g5⟩ := g3
  obtain rfl : u5 = [_] := h5
  obtain rfl : v5 = [_] := g5
  rfl
theorem mkrd_Letter {W : World} {B : Nat} {x0 : Int} {x1 : Int} {x2 : Int} {x3 : Int} {x4 : Int} {x5 : Int}  : R_Letter.rd W B ((x0, x1), (x2, x3), x4, x5) [.int .i64 x0, .int .i64 x1, .int .i64 x2, .int .i64 x3, .int .i64 x4, .int .i64 x5] := ⟨[.int .i64 x0, .int .i64 x1], [.int .i64 x2, .int .i64 x3, .int .i64 x4, .int .i64 x5], rfl, ⟨[.int .i64 x0], [.int .i64 x1], rfl, rfl, rfl⟩, ⟨[.int .i64 x2, .int .i64 x3], [.int .i64 x4, .int .i64 x5], rfl, ⟨[.int .i64 x2], [.int .i64 x3], rfl, rfl, rfl⟩, ⟨[.int .i64 x4], [.int .i64 x5], rfl, rfl, rfl⟩⟩⟩
theorem mkow_Letter {W : World} {S : Nat → Prop} {x0 : Int} {x1 : Int} {x2 : Int} {x3 : Int} {x4 : Int} {x5 : Int}  : R_Letter.ow W S ((x0, x1), (x2, x3), x4, x5) [.int .i64 x0, .int .i64 x1, .int .i64 x2, .int .i64 x3, .int .i64 x4, .int .i64 x5] := ⟨[.int .i64 x0, .int .i64 x1], [.int .i64 x2, .int .i64 x3, .int .i64 x4, .int .i64 x5], (fun _ => False), (fun _ => False), rfl, (fun k h => h.elim), (fun k h => h.elim), (fun k h h' => h.elim), ⟨[.int .i64 x0], [.int .i64 x1], (fun _ => False), (fun _ => False), rfl, (fun k h => h.elim), (fun k h => h.elim), (fun k h h' => h.elim), rfl, rfl⟩, ⟨[.int .i64 x2, .int .i64 x3], [.int .i64 x4, .int .i64 x5], (fun _ => False), (fun _ => False), rfl, (fun k h => h.elim), (fun k h => h.elim), (fun k h h' => h.elim), ⟨[.int .i64 x2], [.int .i64 x3], (fun _ => False), (fun _ => False), rfl, (fun k h => h.elim), (fun k h => h.elim), (fun k h h' => h.elim), rfl, rfl⟩, ⟨[.int .i64 x4], [.int .i64 x5], (fun _ => False), (fun _ => False), rfl, (fun k h => h.elim), (fun k h => h.elim), (fun k h h' => h.elim), rfl, rfl⟩⟩⟩
theorem ow0_Letter {W : World} {S : Nat → Prop} {x0 : Int} {x1 : Int} {x2 : Int} {x3 : Int} {x4 : Int} {x5 : Int} {cs : List Value} (h : R_Letter.ow W S ((x0, x1), (x2, x3), x4, x5) cs) : cs = [.int .i64 x0, .int .i64 x1, .int .i64 x2, .int .i64 x3, .int .i64 x4, .int .i64 x5] := by
  obtain ⟨u1, v1, A1, B1, rfl, sa1, sb1, dd1, h1, g1⟩ := h
  obtain ⟨u2, v2, A2, B2, rfl, sa2, sb2, dd2, h2, g2⟩ := h1
  obtain rfl : u2 = [_] := h2
  obtain rfl : v2 = [_] := g2
  obtain ⟨u3, v3, A3, B3, rfl, sa3, sb3, dd3, h3, g3⟩ := g1
  obtain ⟨u4, v4, A4, B4, rfl, sa4, sb4, dd4, h4, g4⟩ := h3
  obtain rfl : u4 = [_] := h4
  obtain rfl : v4 = [_] := g4
  obtain ⟨u5, v5, A5, B5, rfl, sa5, sb5, dd5, h5, g5⟩ := g3
  obtain rfl : u5 = [_] := h5
  obtain rfl : v5 = [_] := g5
  rfl
abbrev D_Desk : Type := (List (D_Letter)) × (List (D_Letter)) × (List (D_Letter)) × (Int) × (Int)
def R_Desk : Rp D_Desk := (Pr (Sl R_Letter) (Pr (Sl R_Letter) (Pr (Sl R_Letter) (Pr I I))))
theorem R_Desk_ok : Ok R_Desk := (Pr_ok (Sl_ok R_Letter_ok) (Pr_ok (Sl_ok R_Letter_ok) (Pr_ok (Sl_ok R_Letter_ok) (Pr_ok I_ok I_ok))))
theorem rd_Desk {W : World} {B : Nat} {L0 : List (D_Letter)} {L1 : List (D_Letter)} {L2 : List (D_Letter)} {x3 : Int} {x4 : Int} {cs : List Value} (h : R_Desk.rd W B (L0, L1, L2, x3, x4) cs) : ∃ a0 c0 a1 c1 a2 c2, cs = [.slice a0 L0.length c0, .slice a1 L1.length c1, .slice a2 L2.length c2, .int .i64 x3, .int .i64 x4] ∧ RdSl R_Letter W B L0 a0 c0 ∧ RdSl R_Letter W B L1 a1 c1 ∧ RdSl R_Letter W B L2 a2 c2 := by
  obtain ⟨u1, v1, rfl, h1, g1⟩ := h
  obtain ⟨a0, c0, rfl, k_L0⟩ := h1
  obtain ⟨u2, v2, rfl, h2, g2⟩ := g1
  obtain ⟨a1, c1, rfl, k_L1⟩ := h2
  obtain ⟨u3, v3, rfl, h3, g3⟩ := g2
  obtain ⟨a2, c2, rfl, k_L2⟩ := h3
  obtain ⟨u4, v4, rfl, h4, g4⟩ := g3
  obtain rfl : u4 = [_] := h4
  obtain rfl : v4 = [_] := g4
  exact ⟨a0, c0, a1, c1, a2, c2, rfl, k_L0, k_L1, k_L2⟩
theorem mkrd_Desk {W : World} {B : Nat} {L0 : List (D_Letter)} {L1 : List (D_Letter)} {L2 : List (D_Letter)} {x3 : Int} {x4 : Int} {a0 : Option Addr} {c0 : Nat} {a1 : Option Addr} {c1 : Nat} {a2 : Option Addr} {c2 : Nat} (h_L0 : RdSl R_Letter W B L0 a0 c0) (h_L1 : RdSl R_Letter W B L1 a1 c1) (h_L2 : RdSl R_Letter W B L2 a2 c2) : R_Desk.rd W B (L0, L1, L2, x3, x4) [.slice a0 L0.length c0, .slice a1 L1.length c1, .slice a2 L2.length c2, .int .i64 x3, .int .i64 x4] := ⟨[.slice a0 L0.length c0], [.slice a1 L1.length c1, .slice a2 L2.length c2, .int .i64 x3, .int .i64 x4], rfl, ⟨a0, c0, rfl, h_L0⟩, ⟨[.slice a1 L1.length c1], [.slice a2 L2.length c2, .int .i64 x3, .int .i64 x4], rfl, ⟨a1, c1, rfl, h_L1⟩, ⟨[.slice a2 L2.length c2], [.int .i64 x3, .int .i64 x4], rfl, ⟨a2, c2, rfl, h_L2⟩, ⟨[.int .i64 x3], [.int .i64 x4], rfl, rfl, rfl⟩⟩⟩⟩
theorem mkow_Desk {W : World} {S : Nat → Prop} {L0 : List (D_Letter)} {L1 : List (D_Letter)} {L2 : List (D_Letter)} {x3 : Int} {x4 : Int} {a0 : Option Addr} {c0 : Nat} {a1 : Option Addr} {c1 : Nat} {a2 : Option Addr} {c2 : Nat} {T0 : Nat → Prop} {T1 : Nat → Prop} {T2 : Nat → Prop} (hs0 : ∀ k, T0 k → S k) (hs1 : ∀ k, T1 k → S k) (hs2 : ∀ k, T2 k → S k) (hd0_1 : ∀ k, T0 k → ¬ T1 k) (hd0_2 : ∀ k, T0 k → ¬ T2 k) (hd1_2 : ∀ k, T1 k → ¬ T2 k) (h_L0 : OwSl R_Letter W T0 L0 a0 c0) (h_L1 : OwSl R_Letter W T1 L1 a1 c1) (h_L2 : OwSl R_Letter W T2 L2 a2 c2) : R_Desk.ow W S (L0, L1, L2, x3, x4) [.slice a0 L0.length c0, .slice a1 L1.length c1, .slice a2 L2.length c2, .int .i64 x3, .int .i64 x4] := ⟨[.slice a0 L0.length c0], [.slice a1 L1.length c1, .slice a2 L2.length c2, .int .i64 x3, .int .i64 x4], T0, (fun k => T1 k ∨ T2 k), rfl, (fun k h => hs0 k h), (fun k h => by rcases h with h | h <;> first | exact hs1 k h | exact hs2 k h), (fun k h h' => by rcases h' with h' | h' <;> first | exact hd0_1 k h h' | exact hd0_2 k h h'), ⟨a0, c0, rfl, h_L0⟩, ⟨[.slice a1 L1.length c1], [.slice a2 L2.length c2, .int .i64 x3, .int .i64 x4], T1, T2, rfl, (fun k h => .inl h), (fun k h => .inr (h)), hd1_2, ⟨a1, c1, rfl, h_L1⟩, ⟨[.slice a2 L2.length c2], [.int .i64 x3, .int .i64 x4], T2, (fun _ => False), rfl, (fun k h => h), (fun k h => h.elim), (fun k h h' => h'.elim), ⟨a2, c2, rfl, h_L2⟩, ⟨[.int .i64 x3], [.int .i64 x4], (fun _ => False), (fun _ => False), rfl, (fun k h => h.elim), (fun k h => h.elim), (fun k h h' => h.elim), rfl, rfl⟩⟩⟩⟩
theorem ow_Desk {W : World} {S : Nat → Prop} {L0 : List (D_Letter)} {L1 : List (D_Letter)} {L2 : List (D_Letter)} {x3 : Int} {x4 : Int} {cs : List Value} (h : R_Desk.ow W S (L0, L1, L2, x3, x4) cs) : ∃ a0 c0 a1 c1 a2 c2, ∃ T0 T1 T2 : Nat → Prop, cs = [.slice a0 L0.length c0, .slice a1 L1.length c1, .slice a2 L2.length c2, .int .i64 x3, .int .i64 x4] ∧ (∀ k, T0 k → S k) ∧ (∀ k, T1 k → S k) ∧ (∀ k, T2 k → S k) ∧ (∀ k, T0 k → ¬ T1 k) ∧ (∀ k, T0 k → ¬ T2 k) ∧ (∀ k, T1 k → ¬ T2 k) ∧ OwSl R_Letter W T0 L0 a0 c0 ∧ OwSl R_Letter W T1 L1 a1 c1 ∧ OwSl R_Letter W T2 L2 a2 c2 := by
  obtain ⟨u1, v1, A1, B1, rfl, sa1, sb1, dd1, h1, g1⟩ := h
  obtain ⟨a0, c0, rfl, k_L0⟩ := h1
  obtain ⟨u2, v2, A2, B2, rfl, sa2, sb2, dd2, h2, g2⟩ := g1
  obtain ⟨a1, c1, rfl, k_L1⟩ := h2
  obtain ⟨u3, v3, A3, B3, rfl, sa3, sb3, dd3, h3, g3⟩ := g2
  obtain ⟨a2, c2, rfl, k_L2⟩ := h3
  obtain ⟨u4, v4, A4, B4, rfl, sa4, sb4, dd4, h4, g4⟩ := g3
  obtain rfl : u4 = [_] := h4
  obtain rfl : v4 = [_] := g4
  exact ⟨a0, c0, a1, c1, a2, c2, A1, A2, A3, rfl, fun k h => sa1 k (h), fun k h => sb1 k (sa2 k (h)), fun k h => sb1 k (sb2 k (sa3 k (h))), fun k h h' => dd1 k (h) (sa2 k (h')), fun k h h' => dd1 k (h) (sb2 k (sa3 k (h'))), fun k h h' => dd2 k (h) (sa3 k (h')), k_L0, k_L1, k_L2⟩
abbrev D_DeskStep : Type := (D_Desk) × (Int)
def R_DeskStep : Rp D_DeskStep := (Pr R_Desk I)
theorem R_DeskStep_ok : Ok R_DeskStep := (Pr_ok R_Desk_ok I_ok)
theorem rd_DeskStep {W : World} {B : Nat} {L0 : List (D_Letter)} {L1 : List (D_Letter)} {L2 : List (D_Letter)} {x3 : Int} {x4 : Int} {x5 : Int} {cs : List Value} (h : R_DeskStep.rd W B ((L0, L1, L2, x3, x4), x5) cs) : ∃ a0 c0 a1 c1 a2 c2, cs = [.slice a0 L0.length c0, .slice a1 L1.length c1, .slice a2 L2.length c2, .int .i64 x3, .int .i64 x4, .int .i64 x5] ∧ RdSl R_Letter W B L0 a0 c0 ∧ RdSl R_Letter W B L1 a1 c1 ∧ RdSl R_Letter W B L2 a2 c2 := by
  obtain ⟨u1, v1, rfl, h1, g1⟩ := h
  obtain ⟨u2, v2, rfl, h2, g2⟩ := h1
  obtain ⟨a0, c0, rfl, k_L0⟩ := h2
  obtain ⟨u3, v3, rfl, h3, g3⟩ := g2
  obtain ⟨a1, c1, rfl, k_L1⟩ := h3
  obtain ⟨u4, v4, rfl, h4, g4⟩ := g3
  obtain ⟨a2, c2, rfl, k_L2⟩ := h4
  obtain ⟨u5, v5, rfl, h5, g5⟩ := g4
  obtain rfl : u5 = [_] := h5
  obtain rfl : v5 = [_] := g5
  obtain rfl : v1 = [_] := g1
  exact ⟨a0, c0, a1, c1, a2, c2, rfl, k_L0, k_L1, k_L2⟩
theorem mkow_DeskStep {W : World} {S : Nat → Prop} {L0 : List (D_Letter)} {L1 : List (D_Letter)} {L2 : List (D_Letter)} {x3 : Int} {x4 : Int} {x5 : Int} {a0 : Option Addr} {c0 : Nat} {a1 : Option Addr} {c1 : Nat} {a2 : Option Addr} {c2 : Nat} {T0 : Nat → Prop} {T1 : Nat → Prop} {T2 : Nat → Prop} (hs0 : ∀ k, T0 k → S k) (hs1 : ∀ k, T1 k → S k) (hs2 : ∀ k, T2 k → S k) (hd0_1 : ∀ k, T0 k → ¬ T1 k) (hd0_2 : ∀ k, T0 k → ¬ T2 k) (hd1_2 : ∀ k, T1 k → ¬ T2 k) (h_L0 : OwSl R_Letter W T0 L0 a0 c0) (h_L1 : OwSl R_Letter W T1 L1 a1 c1) (h_L2 : OwSl R_Letter W T2 L2 a2 c2) : R_DeskStep.ow W S ((L0, L1, L2, x3, x4), x5) [.slice a0 L0.length c0, .slice a1 L1.length c1, .slice a2 L2.length c2, .int .i64 x3, .int .i64 x4, .int .i64 x5] := ⟨[.slice a0 L0.length c0, .slice a1 L1.length c1, .slice a2 L2.length c2, .int .i64 x3, .int .i64 x4], [.int .i64 x5], (fun k => T0 k ∨ T1 k ∨ T2 k), (fun _ => False), rfl, (fun k h => by rcases h with h | h | h <;> first | exact hs0 k h | exact hs1 k h | exact hs2 k h), (fun k h => h.elim), (fun k h h' => h'.elim), ⟨[.slice a0 L0.length c0], [.slice a1 L1.length c1, .slice a2 L2.length c2, .int .i64 x3, .int .i64 x4], T0, (fun k => T1 k ∨ T2 k), rfl, (fun k h => .inl h), (fun k h => by rcases h with h | h <;> first | exact .inr (.inl h) | exact .inr (.inr (h))), (fun k h h' => by rcases h' with h' | h' <;> first | exact hd0_1 k h h' | exact hd0_2 k h h'), ⟨a0, c0, rfl, h_L0⟩, ⟨[.slice a1 L1.length c1], [.slice a2 L2.length c2, .int .i64 x3, .int .i64 x4], T1, T2, rfl, (fun k h => .inl h), (fun k h => .inr (h)), hd1_2, ⟨a1, c1, rfl, h_L1⟩, ⟨[.slice a2 L2.length c2], [.int .i64 x3, .int .i64 x4], T2, (fun _ => False), rfl, (fun k h => h), (fun k h => h.elim), (fun k h h' => h'.elim), ⟨a2, c2, rfl, h_L2⟩, ⟨[.int .i64 x3], [.int .i64 x4], (fun _ => False), (fun _ => False), rfl, (fun k h => h.elim), (fun k h => h.elim), (fun k h h' => h.elim), rfl, rfl⟩⟩⟩⟩, rfl⟩
theorem ow_DeskStep {W : World} {S : Nat → Prop} {L0 : List (D_Letter)} {L1 : List (D_Letter)} {L2 : List (D_Letter)} {x3 : Int} {x4 : Int} {x5 : Int} {cs : List Value} (h : R_DeskStep.ow W S ((L0, L1, L2, x3, x4), x5) cs) : ∃ a0 c0 a1 c1 a2 c2, ∃ T0 T1 T2 : Nat → Prop, cs = [.slice a0 L0.length c0, .slice a1 L1.length c1, .slice a2 L2.length c2, .int .i64 x3, .int .i64 x4, .int .i64 x5] ∧ (∀ k, T0 k → S k) ∧ (∀ k, T1 k → S k) ∧ (∀ k, T2 k → S k) ∧ (∀ k, T0 k → ¬ T1 k) ∧ (∀ k, T0 k → ¬ T2 k) ∧ (∀ k, T1 k → ¬ T2 k) ∧ OwSl R_Letter W T0 L0 a0 c0 ∧ OwSl R_Letter W T1 L1 a1 c1 ∧ OwSl R_Letter W T2 L2 a2 c2 := by
  obtain ⟨u1, v1, A1, B1, rfl, sa1, sb1, dd1, h1, g1⟩ := h
  obtain ⟨u2, v2, A2, B2, rfl, sa2, sb2, dd2, h2, g2⟩ := h1
  obtain ⟨a0, c0, rfl, k_L0⟩ := h2
  obtain ⟨u3, v3, A3, B3, rfl, sa3, sb3, dd3, h3, g3⟩ := g2
  obtain ⟨a1, c1, rfl, k_L1⟩ := h3
  obtain ⟨u4, v4, A4, B4, rfl, sa4, sb4, dd4, h4, g4⟩ := g3
  obtain ⟨a2, c2, rfl, k_L2⟩ := h4
  obtain ⟨u5, v5, A5, B5, rfl, sa5, sb5, dd5, h5, g5⟩ := g4
  obtain rfl : u5 = [_] := h5
  obtain rfl : v5 = [_] := g5
  obtain rfl : v1 = [_] := g1
  exact ⟨a0, c0, a1, c1, a2, c2, A2, A3, A4, rfl, fun k h => sa1 k (sa2 k (h)), fun k h => sa1 k (sb2 k (sa3 k (h))), fun k h => sa1 k (sb2 k (sb3 k (sa4 k (h)))), fun k h h' => dd2 k (h) (sa3 k (h')), fun k h h' => dd2 k (h) (sb3 k (sa4 k (h'))), fun k h h' => dd3 k (h) (sa4 k (h')), k_L0, k_L1, k_L2⟩
theorem size_LetterS : (R_Letter).size = 6 := rfl
theorem flat_LetterS (L : List (D_Letter)) : (Sl R_Letter).sz L = L.length := by
  have : sumL (R_Letter).sz L = 0 := sumL_zero (fun _ => rfl) L
  simp only [Sl, this, Nat.add_zero]
theorem szd_Desk {L0 : List (D_Letter)} {L1 : List (D_Letter)} {L2 : List (D_Letter)} {x3 : Int} {x4 : Int} : R_Desk.sz (L0, L1, L2, x3, x4) = (((Sl R_Letter)).sz L0) + (((Sl R_Letter)).sz L1) + (((Sl R_Letter)).sz L2) := by
  simp only [R_Desk, Pr, I, Bo, atom]; omega
end Go.Proofs.YtphklknaagjmpaaDoor.RepC
end
section
namespace Go.Proofs.YtphklknaagjmpaaDoor.RepC
open Go.RowKit RowC ValC
set_option linter.unusedVariables false
theorem gmv {α : Type} {E : Rp α} (hE : Ok E) {d : α} {cs : List Value} {w w' : World} (h : E.rd w w.heap.size d cs) (hb : Below w.heap.size w w') : E.rd w' w'.heap.size d cs := hE.rd_more (hE.rd_below h hb) hb.size
def OwG {α : Type} (E : Rp α) (w : World) (S : Nat → Prop) (d : α) (cs : List Value) : Prop := E.ow w S d cs ∧ ∀ k, S k → k < w.heap.size
theorem OwG.mv {α : Type} {E : Rp α} (hE : Ok E) {w w' : World} {S : Nat → Prop} {d : α} {cs : List Value} (h : OwG E w S d cs) (hb : Below w.heap.size w w') : OwG E w' S d cs :=
  ⟨hE.ow_keep h.1 fun k hk => hb.block k (h.2 k hk), fun k hk => Nat.lt_of_lt_of_le (h.2 k hk) hb.size⟩
theorem OwG.off {α : Type} {E : Rp α} (hE : Ok E) {w w' : World} {S T : Nat → Prop} {d : α} {cs : List Value} (h : OwG E w S d cs) (ho : Off T w w') (hd : ∀ k, S k → ¬ T k) : OwG E w' S d cs :=
  ⟨hE.ow_keep h.1 fun k hk => ho.block k (h.2 k hk) (hd k hk), fun k hk => Nat.lt_of_lt_of_le (h.2 k hk) ho.size⟩
theorem OwG.rd {α : Type} {E : Rp α} (hE : Ok E) {w : World} {S : Nat → Prop} {d : α} {cs : List Value} (h : OwG E w S d cs) : E.rd w w.heap.size d cs := hE.ow_rd h.1 h.2
end Go.Proofs.YtphklknaagjmpaaDoor.RepC
end
section
namespace Go.Proofs.YtphklknaagjmpaaDoor.RepC
open Go.RowKit RowC ValC
set_option linter.unusedVariables false
set_option linter.unusedSimpArgs false
theorem owc_Desk {W : World} {S : Nat → Prop} {L0 : List (D_Letter)} {L1 : List (D_Letter)} {L2 : List (D_Letter)} {x3 : Int} {x4 : Int} {cs : List Value} (h : R_Desk.ow W S (L0, L1, L2, x3, x4) cs) : ∃ a0 c0 a1 c1 a2 c2, cs = [.slice a0 L0.length c0, .slice a1 L1.length c1, .slice a2 L2.length c2, .int .i64 x3, .int .i64 x4] ∧ R_Desk.ow W S (L0, L1, L2, x3, x4) [.slice a0 L0.length c0, .slice a1 L1.length c1, .slice a2 L2.length c2, .int .i64 x3, .int .i64 x4] := by
  have h0 := h
  obtain ⟨a0, c0, a1, c1, a2, c2, T0, T1, T2, rfl, _⟩ := ow_Desk h
  exact ⟨a0, c0, a1, c1, a2, c2, rfl, h0⟩
theorem owc_DeskStep {W : World} {S : Nat → Prop} {L0 : List (D_Letter)} {L1 : List (D_Letter)} {L2 : List (D_Letter)} {x3 : Int} {x4 : Int} {x5 : Int} {cs : List Value} (h : R_DeskStep.ow W S ((L0, L1, L2, x3, x4), x5) cs) : ∃ a0 c0 a1 c1 a2 c2, cs = [.slice a0 L0.length c0, .slice a1 L1.length c1, .slice a2 L2.length c2, .int .i64 x3, .int .i64 x4, .int .i64 x5] ∧ R_DeskStep.ow W S ((L0, L1, L2, x3, x4), x5) [.slice a0 L0.length c0, .slice a1 L1.length c1, .slice a2 L2.length c2, .int .i64 x3, .int .i64 x4, .int .i64 x5] := by
  have h0 := h
  obtain ⟨a0, c0, a1, c1, a2, c2, T0, T1, T2, rfl, _⟩ := ow_DeskStep h
  exact ⟨a0, c0, a1, c1, a2, c2, rfl, h0⟩
end Go.Proofs.YtphklknaagjmpaaDoor.RepC
end
