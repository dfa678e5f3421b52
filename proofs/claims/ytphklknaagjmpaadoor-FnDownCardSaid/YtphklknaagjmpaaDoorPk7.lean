/- Of this claim's texts the part 7: DnH. -/
import Derived.Test.YtphklknaagjmpaaDoorPk6
section
namespace Go.Proofs.YtphklknaagjmpaaDoor.DrawC
open Go.RowKit RepC RowC ValC
set_option linter.unusedVariables false
set_option linter.unusedSimpArgs false
set_option maxRecDepth 100000
theorem let_below (V : World) (o : Nat) (l s : Int) : Below o V ((V.setCell ⟨o, 2, none⟩ (.int .i64 l)).setCell ⟨o, 3, none⟩ (.int .i64 s)) := ((Below.refl o V).setCell (p := ⟨o, 2, none⟩) (Nat.le_refl _) (.int .i64 l)).setCell (p := ⟨o, 3, none⟩) (Nat.le_refl _) (.int .i64 s)
theorem let_put {V : World} {o lo : Nat} {P B A : List D_Letter} {xa : Option Addr} {xc : Nat} {ya : Option Addr} {yc : Nat} {za : Option Addr} {zc : Nat} {x0 x1 x2 x3 x4 x5 : Int} (hO : Blk V o 48 #[.int .i64 x0, .int .i64 x1, .int .i64 x2, .int .i64 x3, .int .i64 x4, .int .i64 x5]) {V0 : World} {g : Nat} (hR : R3 V0 lo P B A xa xc ya yc za zc) (hg : g < lo) (hB : But g V0 V) (ho : V0.heap.size ≤ o) (l s : Int) :
    ∃ Z : World, Z = (V.setCell ⟨o, 2, none⟩ (.int .i64 l)).setCell ⟨o, 3, none⟩ (.int .i64 s) ∧ Blk Z o 48 #[.int .i64 x0, .int .i64 x1, .int .i64 l, .int .i64 s, .int .i64 x4, .int .i64 x5] ∧ R3 Z lo P B A xa xc ya yc za zc ∧ Below o V Z ∧ ∀ k T cs, k ≠ o → Blk V k T cs → Blk Z k T cs := by
  exact ⟨_, rfl, ((hO.set 2 (.int .i64 l)).set 3 (.int .i64 s)).as rfl, hR.mv (Nat.le_trans hB.size (let_below V o l s).size) (fun k h1 h2 => ((let_below V o l s).block k (by omega)).trans (hB.block k h2 (by omega))), let_below V o l s, fun k T cs hk h => (h.far hk _).far hk _⟩
theorem bs_new {V : World} {t : Nat} {T : TypeId} {cs : Array Value} (h : Blk V t T cs) : ∃ (U : World) (bs : Nat), U = V.alloc (.cells #[.int .i64 (-1), .int .i64 1000000, .int .i64 1000001] 2) ∧ bs = V.heap.size ∧ Blk U bs 2 #[.int .i64 (-1), .int .i64 1000000, .int .i64 1000001] ∧ Below V.heap.size V U ∧ t < bs :=
  ⟨_, _, rfl, rfl, Blk.new _ _ _, (Below.refl _ _).alloc (Nat.le_refl _) _, h.lt⟩
set_option maxHeartbeats 4000000 in
theorem draw_letdown (b : Option Addr) (len cap : Nat) (w0 : World) (hlen : len ≤ 1048576) (h : CodeIn w0 b len) :
    Calls Tryd.prog 4 #[.slice b len cap] w0 (DrawnKQ w0) := by
  obtain ⟨Wa, hWa⟩ : ∃ x, x = (((w0.alloc (.cells #[.slice none 0 0, .slice none 0 0, .slice none 0 0, .int .i64 0, .int .i64 0] 25)).alloc (.cells #[.int .i64 0, .int .i64 0] 27)).alloc (.cells #[.int .i64 0, .int .i64 0] 27)) := ⟨_, rfl⟩
  have hza : Wa.heap.size = w0.heap.size + 1 + 1 + 1 := by rw [hWa]; simp
  have hb1 : Below w0.heap.size w0 Wa := by rw [hWa]; exact ((((Below.refl _ _).alloc (Nat.le_refl _) _).alloc (by simp) _).alloc (by simp; omega) _)
  have hHO2 : Blk Wa (w0.heap.size) 25 #[.slice none 0 0, .slice none 0 0, .slice none 0 0, .int .i64 0, .int .i64 0] := by
    have h9 := (((Blk.new w0 25 #[.slice none 0 0, .slice none 0 0, .slice none 0 0, .int .i64 0, .int .i64 0]).alloc (.cells #[.int .i64 0, .int .i64 0] 27)).alloc (.cells #[.int .i64 0, .int .i64 0] 27))
    skip
    rw [hWa]; exact h9
  have HO2 := Lib.hid hHO2
  clear hHO2
  have hHO3 : Blk Wa (w0.heap.size + 1) 27 #[.int .i64 0, .int .i64 0] := by
    have h9 := ((Blk.new (w0.alloc (.cells #[.slice none 0 0, .slice none 0 0, .slice none 0 0, .int .i64 0, .int .i64 0] 25)) 27 #[.int .i64 0, .int .i64 0]).alloc (.cells #[.int .i64 0, .int .i64 0] 27))
    simp only [World.size_alloc] at h9
    rw [hWa]; exact h9
  have HO3 := Lib.hid hHO3
  clear hHO3
  have hHO4 : Blk Wa (w0.heap.size + 1 + 1) 27 #[.int .i64 0, .int .i64 0] := by
    have h9 := (Blk.new ((w0.alloc (.cells #[.slice none 0 0, .slice none 0 0, .slice none 0 0, .int .i64 0, .int .i64 0] 25)).alloc (.cells #[.int .i64 0, .int .i64 0] 27)) 27 #[.int .i64 0, .int .i64 0])
    simp only [World.size_alloc] at h9
    rw [hWa]; exact h9
  have HO4 := Lib.hid hHO4
  clear hHO4
  have HB1 := Lib.hid hb1
  have HC := Lib.hid (h.below hb1)
  clear h hb1
  go_enter Tryd.func4, Tryd.ntmps4
  go_wp2_with fail
  rw [← hWa]
  clear hWa
  refine (source_any b len cap _ hlen HC.out).mono ?_
  rintro e w1 ⟨rfl, hs, hb⟩
  obtain ⟨g, hg⟩ : ∃ g, g = Wa.heap.size := ⟨_, rfl⟩
  have HO2 := Lib.hid (HO2.out.call hb)
  have HO3 := Lib.hid (HO3.out.call hb)
  have HO4 := Lib.hid (HO4.out.call hb)
  have HB2 := Lib.hid (HB1.out.trans (hb.mono HB1.out.size))
  have HS2 := Lib.hid (show Src g b len cap w1 from by rw [hg]; exact hs)
  have hgz : g < w1.heap.size := HS2.out.lt
  have hg2 : w0.heap.size + 1 + 1 < g := by rw [hg, hza]; omega
  rw [← hg]
  clear hs hb HB1 HC hg hza
  go_wp2_with fail
  refine (desk_any g b len cap _ HS2.out).mono ?_
  intro e w2 h
  obtain ⟨P, B, A, u, n, xa, xc, ya, yc, za, zc, rfl, l1, l2, l3, l4, hR, hs, hb⟩ := drawnD_elim h
  have HO2 := Lib.hid (Blk.but HO2.out hb (by omega))
  have HO3 := Lib.hid (Blk.but HO3.out hb (by omega))
  have HO4 := Lib.hid (Blk.but HO4.out hb (by omega))
  have HB3 := Lib.hid (HB2.out.trans (hb.below (B := w0.heap.size) HB2.out.size (by omega)))
  have HLEN := Lib.hid (show 2 ≤ P.length ∧ P.length ≤ 5 ∧ B.length ≤ 9 ∧ A.length ≤ 20 from ⟨l1, l2, l3, l4⟩)
  have hP2 := l1
  have HR3 := Lib.hid hR
  have HS3 := Lib.hid hs
  have hz3 := hb.size
  clear h l1 l2 l3 l4 hR hs hb HB2 HS2
  obtain ⟨V7, hV7⟩ : ∃ x, x = w2.alloc (.cells #[.slice xa P.length xc, .slice ya B.length yc, .slice za A.length zc, .int .i64 u, .int .i64 n] 25) := ⟨_, rfl⟩
  have hb7 : Below w2.heap.size w2 V7 := by rw [hV7]; exact (Below.refl _ _).alloc (Nat.le_refl _) _
  have HO2 := Lib.hid (HO2.out.call hb7)
  have HO3 := Lib.hid (HO3.out.call hb7)
  have HO4 := Lib.hid (HO4.out.call hb7)
  obtain ⟨t7, ht7⟩ : ∃ t, t = w2.heap.size := ⟨_, rfl⟩
  have HT := Lib.hid (show Blk V7 t7 25 #[.slice xa P.length xc, .slice ya B.length yc, .slice za A.length zc, .int .i64 u, .int .i64 n] from by rw [hV7, ht7]; exact Blk.new _ _ _)
  have HB4 := Lib.hid (HB3.out.trans (hb7.mono HB3.out.size))
  have HR4 := Lib.hid (HR3.out.call hb7)
  have HS4 := Lib.hid (HS3.out.mono (hb7.mono (by omega)))
  have ht1 : w1.heap.size ≤ t7 := by omega
  have hgw : w0.heap.size < g := by omega
  skip
  clear HB3 HR3 HS3 hb7
  go_upto_region 3 with fail
  rw [← hV7]
  clear hV7
  try rw [← ht7]
  clear ht7
  have E0 := Lib.hid (HT.out.at_ 0 rfl)
  have hgr : g < V7.heap.size := HS4.out.lt
  have htl : t7 < V7.heap.size := HT.out.lt
  have htg : t7 ≠ g := by omega
  go_cut [8] (fun s8 wx => ∃ (bx : Nat) (x0 x1 x2 x3 x4 x5 : Int), s8 = .pointer (some ⟨bx, 0, none⟩) ∧ V7.heap.size ≤ bx ∧ Hid (Blk wx bx 48 #[.int .i64 x0, .int .i64 x1, .int .i64 x2, .int .i64 x3, .int .i64 x4, .int .i64 x5]) ∧ Hid (LS g b len cap V7 wx))
  case first =>
    refine wp_region_held_drew (S := (fun V => LS g b len cap V7 V)) (by kernel_rfl) (⟨HS4.out.mono (Below.refl _ _).drew, (But.refl _ _).drew⟩) (fun hHeld => ?_)
    refine tk 0 hHeld ?_
    refine tk 1 hHeld ?_ (hy := fun w hSw => by (try dsimp only at hSw); have k0 := (hSw.2.cell (p := ⟨t7, 0, none⟩) htl htg).trans E0.out; clear hSw; go_simp; try with_reducible rfl)
    refine tk 2 hHeld ?_
    refine rd2 3 6 (fun K hK => ?_) (fun K hK => ?_)
    · skip
      go_simp
      go_at_call 20
      refine (n_any g b len cap _ _ hHeld.1 (by omega)).mono ?_
      rintro e v4 ⟨q, rfl, v0, v1, hs, hb⟩
      obtain ⟨j, rfl⟩ : ∃ j : Nat, q = (j : Int) := ⟨q.toNat, by omega⟩
      have hj : j < P.length := by omega
      obtain ⟨gp, x0, x1, x2, x3, x4, x5, hxa, hgp, hgpl, f0, f1, f2, f3, f4, f5⟩ := r3_pair HR4.out hj
      have hgpg : gp ≠ g := by omega
      subst hxa
      have F0 := Lib.hid f0
      have F1 := Lib.hid f1
      have F2 := Lib.hid f2
      have F3 := Lib.hid f3
      have F4 := Lib.hid f4
      have F5 := Lib.hid f5
      clear f0 f1 f2 f3 f4 f5
      have hi0 : (0 : Int) ≤ (j : Int) := Int.natCast_nonneg _
      have hi1 : (j : Int) < (P.length : Int) := by omega
      try have HX := Lib.hid (Blk.but HX.out hb (by have := HX0.out; omega))
      have hsx : LS g b len cap V7 v4 := ⟨hs, hHeld.2.trans hb⟩
      clear hs hb v0 v1
      refine hK.out _ _ hsx (fun hHeld => ?_)
      clear hsx
      clear hK K
      refine tk 4 hHeld ?_
      refine tk 5 hHeld ?_ (hy := fun w hSw => by (try dsimp only at hSw); have k0 := (hSw.2.cell (p := ⟨gp, j * 6, none⟩) hgpl hgpg).trans F0.out; have k1 := (hSw.2.cell (p := ⟨gp, j * 6 + 1, none⟩) hgpl hgpg).trans F1.out; have k2 := (hSw.2.cell (p := ⟨gp, j * 6 + 2, none⟩) hgpl hgpg).trans F2.out; have k3 := (hSw.2.cell (p := ⟨gp, j * 6 + 3, none⟩) hgpl hgpg).trans F3.out; have k4 := (hSw.2.cell (p := ⟨gp, j * 6 + 4, none⟩) hgpl hgpg).trans F4.out; have k5 := (hSw.2.cell (p := ⟨gp, j * 6 + 5, none⟩) hgpl hgpg).trans F5.out; clear hSw; go_simp; try with_reducible rfl)
      refine rd1 6 (fun K hK => ?_)
      obtain ⟨U, bx, hU, hbx, hsU, hXU, hX0, hbU⟩ := ls_new hHeld hgr #[.int .i64 0, .int .i64 0, .int .i64 0, .int .i64 0, .int .i64 0, .int .i64 0] 48
      go_simp
      first | rw [← hU, ← hbx] | rw [show (V7.alloc (.cells #[.int .i64 0, .int .i64 0, .int .i64 0, .int .i64 0, .int .i64 0, .int .i64 0] 48)).drew = U from hU.symm, show V7.heap.size = bx from hbx.symm]
      have HX := Lib.hid hXU
      have HX0 := Lib.hid hX0
      refine hK.out _ _ hsU (fun hHeld => ?_)
      clear hU hbx hXU hsU hX0 hbU
      clear hK K
      refine rd1 7 (fun K hK => ?_)
      obtain ⟨Z, hZ, hsZ, hXZ⟩ := ls_letter hHeld HX.out hgr HX0.out x0 x1 x2 x3 x4 x5
      have r0 := HX.out.at_ 0 rfl
      have r1 := HX.out.at_ 1 rfl
      have r2 := HX.out.at_ 2 rfl
      have r3 := HX.out.at_ 3 rfl
      have r4 := HX.out.at_ 4 rfl
      have r5 := HX.out.at_ 5 rfl
      have o0 := HX.out.soft 0
      have o1 := HX.out.soft 1
      have o2 := HX.out.soft 2
      have o3 := HX.out.soft 3
      have o4 := HX.out.soft 4
      have o5 := HX.out.soft 5
      go_simp
      rw [← hZ]
      have HX := Lib.hid hXZ
      clear hZ hXZ r0 r1 r2 r3 r4 r5 o0 o1 o2 o3 o4 o5
      refine hK.out _ _ hsZ (fun hHeld => ?_)
      clear hsZ
      clear hK K
      refine rd0 ?_
      have HL := Lib.hid hHeld
      clear hHeld
      go_wp2_with fail
      go_meet
      exact ⟨_, x0, x1, x2, x3, x4, x5, rfl, HX0.out, HX, HL⟩
    · skip
      obtain ⟨U, bx, hU, hbx, hsU, hXU, hX0, hbU⟩ := ls_new hHeld hgr #[.int .i64 0, .int .i64 0, .int .i64 0, .int .i64 0, .int .i64 0, .int .i64 0] 48
      go_simp
      first | rw [← hU, ← hbx] | rw [show (V7.alloc (.cells #[.int .i64 0, .int .i64 0, .int .i64 0, .int .i64 0, .int .i64 0, .int .i64 0] 48)).drew = U from hU.symm, show V7.heap.size = bx from hbx.symm]
      have HX := Lib.hid hXU
      have HX0 := Lib.hid hX0
      refine hK.out _ _ hsU (fun hHeld => ?_)
      clear hU hbx hXU hsU hX0 hbU
      clear hK K
      refine rd1 3 (fun K hK => ?_)
      go_simp
      go_at_call 20
      refine (n_any g b len cap _ _ hHeld.1 (by omega)).mono ?_
      rintro e v4 ⟨q, rfl, v0, v1, hs, hb⟩
      obtain ⟨j, rfl⟩ : ∃ j : Nat, q = (j : Int) := ⟨q.toNat, by omega⟩
      have hj : j < P.length := by omega
      obtain ⟨gp, x0, x1, x2, x3, x4, x5, hxa, hgp, hgpl, f0, f1, f2, f3, f4, f5⟩ := r3_pair HR4.out hj
      have hgpg : gp ≠ g := by omega
      subst hxa
      have F0 := Lib.hid f0
      have F1 := Lib.hid f1
      have F2 := Lib.hid f2
      have F3 := Lib.hid f3
      have F4 := Lib.hid f4
      have F5 := Lib.hid f5
      clear f0 f1 f2 f3 f4 f5
      have hi0 : (0 : Int) ≤ (j : Int) := Int.natCast_nonneg _
      have hi1 : (j : Int) < (P.length : Int) := by omega
      try have HX := Lib.hid (Blk.but HX.out hb (by have := HX0.out; omega))
      have hsx : LS g b len cap V7 v4 := ⟨hs, hHeld.2.trans hb⟩
      clear hs hb v0 v1
      refine hK.out _ _ hsx (fun hHeld => ?_)
      clear hsx
      clear hK K
      refine tk 4 hHeld ?_
      refine tk 5 hHeld ?_ (hy := fun w hSw => by (try dsimp only at hSw); have k0 := (hSw.2.cell (p := ⟨gp, j * 6, none⟩) hgpl hgpg).trans F0.out; have k1 := (hSw.2.cell (p := ⟨gp, j * 6 + 1, none⟩) hgpl hgpg).trans F1.out; have k2 := (hSw.2.cell (p := ⟨gp, j * 6 + 2, none⟩) hgpl hgpg).trans F2.out; have k3 := (hSw.2.cell (p := ⟨gp, j * 6 + 3, none⟩) hgpl hgpg).trans F3.out; have k4 := (hSw.2.cell (p := ⟨gp, j * 6 + 4, none⟩) hgpl hgpg).trans F4.out; have k5 := (hSw.2.cell (p := ⟨gp, j * 6 + 5, none⟩) hgpl hgpg).trans F5.out; clear hSw; go_simp; try with_reducible rfl)
      refine rd1 7 (fun K hK => ?_)
      obtain ⟨Z, hZ, hsZ, hXZ⟩ := ls_letter hHeld HX.out hgr HX0.out x0 x1 x2 x3 x4 x5
      have r0 := HX.out.at_ 0 rfl
      have r1 := HX.out.at_ 1 rfl
      have r2 := HX.out.at_ 2 rfl
      have r3 := HX.out.at_ 3 rfl
      have r4 := HX.out.at_ 4 rfl
      have r5 := HX.out.at_ 5 rfl
      have o0 := HX.out.soft 0
      have o1 := HX.out.soft 1
      have o2 := HX.out.soft 2
      have o3 := HX.out.soft 3
      have o4 := HX.out.soft 4
      have o5 := HX.out.soft 5
      go_simp
      rw [← hZ]
      have HX := Lib.hid hXZ
      clear hZ hXZ r0 r1 r2 r3 r4 r5 o0 o1 o2 o3 o4 o5
      refine hK.out _ _ hsZ (fun hHeld => ?_)
      clear hsZ
      clear hK K
      refine rd0 ?_
      have HL := Lib.hid hHeld
      clear hHeld
      go_wp2_with fail
      go_meet
      exact ⟨_, x0, x1, x2, x3, x4, x5, rfl, HX0.out, HX, HL⟩
  case rest =>
    obtain ⟨bx, x0, x1, x2, x3, x4, x5, rfl, hbx, HX, HL⟩ := hcut
    rename World => w8
    have HRR := HR4
    have HBB := HB4
    have hb8 := HL.out.2
    have HO2 := Lib.hid (Blk.but HO2.out hb8 (by omega))
    have HO3 := Lib.hid (Blk.but HO3.out hb8 (by omega))
    have HO4 := Lib.hid (Blk.but HO4.out hb8 (by omega))
    have HT := Lib.hid (Blk.but HT.out hb8 (by omega))
    have HRR := Lib.hid (r3_but HRR.out (show g < w1.heap.size from hgz) hb8)
    have HBB := Lib.hid (HBB.out.trans (hb8.below (B := w0.heap.size) HBB.out.size (by omega)))
    have HSS := Lib.hid HL.out.1
    have HBV := Lib.hid hb8
    clear HL HB4 HS4 E0 hb8 hgr
    go_wp2_with fail
    refine (one_any g b len cap _ _ HSS.out (by omega)).mono ?_
    rintro e w9 ⟨t, rfl, hs, hb⟩
    have HO2 := Lib.hid (Blk.but HO2.out hb (by omega))
    have HO3 := Lib.hid (Blk.but HO3.out hb (by omega))
    have HO4 := Lib.hid (Blk.but HO4.out hb (by omega))
    have HT := Lib.hid (Blk.but HT.out hb (by omega))
    have HX := Lib.hid (Blk.but HX.out hb (by omega))
    have HRR := Lib.hid (r3_but HRR.out (show g < w1.heap.size from hgz) hb)
    have HBB := Lib.hid (HBB.out.trans (hb.below (B := w0.heap.size) HBB.out.size (by omega)))
    have HBV := Lib.hid (HBV.out.trans hb)
    have HSS := Lib.hid hs
    clear hs hb
    cases t with
    | false =>
      go_wp2_with fail
      refine (one_any g b len cap _ _ HSS.out (by omega)).mono ?_
      rintro e wA ⟨tt, rfl, hs, hb⟩
      have HO2 := Lib.hid (Blk.but HO2.out hb (by omega))
      have HO3 := Lib.hid (Blk.but HO3.out hb (by omega))
      have HO4 := Lib.hid (Blk.but HO4.out hb (by omega))
      have HT := Lib.hid (Blk.but HT.out hb (by omega))
      have HX := Lib.hid (Blk.but HX.out hb (by omega))
      have HRR := Lib.hid (r3_but HRR.out (show g < w1.heap.size from hgz) hb)
      have HBB := Lib.hid (HBB.out.trans (hb.below (B := w0.heap.size) HBB.out.size (by omega)))
      have HSS := Lib.hid hs
      clear hs hb
      cases tt with
      | false =>
        go_upto_region 8 with fail
        refine wp_region_held_drew (S := (fun V => Blk V t7 25 #[.slice xa P.length xc, .slice ya B.length yc, .slice za A.length zc, .int .i64 u, .int .i64 n] ∧ Blk V bx 48 #[.int .i64 x0, .int .i64 x1, .int .i64 x2, .int .i64 x3, .int .i64 x4, .int .i64 x5])) (by kernel_rfl) (⟨HT.out.call (Below.refl wA.heap.size wA).drew, HX.out.call (Below.refl wA.heap.size wA).drew⟩) (fun hHeld => ?_)
        have HO2 := Lib.hid (HO2.out.call (Below.refl wA.heap.size wA).drew)
        have HO3 := Lib.hid (HO3.out.call (Below.refl wA.heap.size wA).drew)
        have HO4 := Lib.hid (HO4.out.call (Below.refl wA.heap.size wA).drew)
        have HRR := Lib.hid (HRR.out.call (Below.refl wA.heap.size wA).drew)
        have HSS := Lib.hid (HSS.out.mono (Below.refl _ _).drew)
        have HBB := Lib.hid (HBB.out.trans ((Below.refl w0.heap.size wA).drew))
        obtain ⟨wd, hwd⟩ : ∃ x, x = wA.drew := ⟨_, rfl⟩
        rw [← hwd] at HO2 HO3 HO4 HRR HSS HBB hHeld ⊢
        clear hwd HT HX
        refine tk 0 hHeld ?_ (hy := fun w hSw => by (try dsimp only at hSw); have k0 := hSw.1.at_ 0 rfl; have k1 := hSw.1.at_ 1 rfl; have k2 := hSw.1.at_ 2 rfl; have k3 := hSw.1.at_ 3 rfl; have k4 := hSw.1.at_ 4 rfl; clear hSw; go_simp; try with_reducible rfl)
        refine tk 1 hHeld ?_
        refine tk 2 hHeld ?_ (hy := fun w hSw => by (try dsimp only at hSw); have k0 := hSw.2.at_ 0 rfl; have k1 := hSw.2.at_ 1 rfl; clear hSw; go_simp; try with_reducible rfl)
        refine tk 3 hHeld ?_
        refine tk 4 hHeld ?_ (hy := fun w hSw => by (try dsimp only at hSw); have k0 := hSw.2.at_ 2 rfl; have k1 := hSw.2.at_ 3 rfl; clear hSw; go_simp; try with_reducible rfl)
        refine tk 5 hHeld ?_
        refine rd1 6 (fun K hK => ?_)
        go_simp
        go_at_call 20
        refine (n_any g b len cap _ _ HSS.out (by omega)).mono ?_
        rintro e v4 ⟨z, rfl, v0, v1, hs, hb⟩
        have HO2 := Lib.hid (Blk.but HO2.out hb (by omega))
        have HO3 := Lib.hid (Blk.but HO3.out hb (by omega))
        have HO4 := Lib.hid (Blk.but HO4.out hb (by omega))
        have HRR := Lib.hid (r3_but HRR.out (show g < w1.heap.size from hgz) hb)
        have HBB := Lib.hid (HBB.out.trans (hb.below (B := w0.heap.size) HBB.out.size (by omega)))
        have HSS := Lib.hid hs
        have hs9 : Blk v4 t7 25 #[.slice xa P.length xc, .slice ya B.length yc, .slice za A.length zc, .int .i64 u, .int .i64 n] ∧ Blk v4 bx 48 #[.int .i64 x0, .int .i64 x1, .int .i64 x2, .int .i64 x3, .int .i64 x4, .int .i64 x5] := ⟨Blk.but hHeld.1 hb (by omega), Blk.but hHeld.2 hb (by omega)⟩
        clear hs hb v0 v1
        refine hK.out _ _ hs9 (fun hHeld => ?_)
        clear hs9
        clear hK K
        refine rd1 7 (fun K hK => ?_)
        obtain ⟨Z, hZ, hf9, hR9, hbz, hfar⟩ := out_put (u := u) (n := n) HO2.out HRR.out
        have c0 := HO2.out.at_ 0 rfl
        have c1 := HO2.out.at_ 1 rfl
        have c2 := HO2.out.at_ 2 rfl
        have c3 := HO2.out.at_ 3 rfl
        have c4 := HO2.out.at_ 4 rfl
        have s0 := HO2.out.soft 0
        have s1 := HO2.out.soft 1
        have s2 := HO2.out.soft 2
        have s3 := HO2.out.soft 3
        have s4 := HO2.out.soft 4
        go_simp
        rw [← hZ]
        have HO2 := Lib.hid hf9
        have HRR := Lib.hid hR9
        have HBB := Lib.hid (HBB.out.trans (hbz.mono (by omega)))
        have HO3 := Lib.hid (hfar _ _ _ (by omega) HO3.out)
        have HO4 := Lib.hid (hfar _ _ _ (by omega) HO4.out)
        try have HBS := Lib.hid (hfar _ _ _ (by omega) HBS.out)
        have hs9 := (And.intro (hfar _ _ _ (by omega) hHeld.1) (hfar _ _ _ (by omega) hHeld.2))
        clear hZ hf9 hR9 hbz hfar c0 s0 c1 s1 c2 s2 c3 s3 c4 s4
        refine hK.out _ _ hs9 (fun hHeld => ?_)
        clear hs9
        clear hK K
        refine rd1 8 (fun K hK => ?_)
        obtain ⟨Z, hZ, hf9, hR9, hbz, hfar⟩ := lab_put HO3.out HRR.out x0 x1
        have c0 := HO3.out.at_ 0 rfl
        have c1 := HO3.out.at_ 1 rfl
        have s0 := HO3.out.soft 0
        have s1 := HO3.out.soft 1
        go_simp
        rw [← hZ]
        have HO3 := Lib.hid hf9
        have HRR := Lib.hid hR9
        have HBB := Lib.hid (HBB.out.trans (hbz.mono (by omega)))
        have HO2 := Lib.hid (hfar _ _ _ (by omega) HO2.out)
        have HO4 := Lib.hid (hfar _ _ _ (by omega) HO4.out)
        try have HBS := Lib.hid (hfar _ _ _ (by omega) HBS.out)
        have hs9 := (And.intro (hfar _ _ _ (by omega) hHeld.1) (hfar _ _ _ (by omega) hHeld.2))
        clear hZ hf9 hR9 hbz hfar c0 s0 c1 s1
        refine hK.out _ _ hs9 (fun hHeld => ?_)
        clear hs9
        clear hK K
        refine rd1 9 (fun K hK => ?_)
        obtain ⟨Z, hZ, hf9, hR9, hbz, hfar⟩ := lab_put HO4.out HRR.out x2 x3
        have c0 := HO4.out.at_ 0 rfl
        have c1 := HO4.out.at_ 1 rfl
        have s0 := HO4.out.soft 0
        have s1 := HO4.out.soft 1
        go_simp
        rw [← hZ]
        have HO4 := Lib.hid hf9
        have HRR := Lib.hid hR9
        have HBB := Lib.hid (HBB.out.trans (hbz.mono (by omega)))
        have HO2 := Lib.hid (hfar _ _ _ (by omega) HO2.out)
        have HO3 := Lib.hid (hfar _ _ _ (by omega) HO3.out)
        try have HBS := Lib.hid (hfar _ _ _ (by omega) HBS.out)
        have hs9 := (And.intro (hfar _ _ _ (by omega) hHeld.1) (hfar _ _ _ (by omega) hHeld.2))
        clear hZ hf9 hR9 hbz hfar c0 s0 c1 s1
        refine hK.out _ _ hs9 (fun hHeld => ?_)
        clear hs9
        clear hK K
        refine tk 10 hHeld ?_
        refine rd0 ?_
        have q0 := HO2.out.at_ 0 rfl
        have q1 := HO2.out.at_ 1 rfl
        have q2 := HO2.out.at_ 2 rfl
        have q3 := HO2.out.at_ 3 rfl
        have q4 := HO2.out.at_ 4 rfl
        have r0 := HO3.out.at_ 0 rfl
        have r1 := HO3.out.at_ 1 rfl
        have o0 := HO4.out.at_ 0 rfl
        have o1 := HO4.out.at_ 1 rfl
        clear hHeld
        go_wp2
        exact bodyPost_ret (v := .tuple #[.agg #[.slice xa P.length xc, .slice ya B.length yc, .slice za A.length zc, .int .i64 u, .int .i64 n], .agg #[.int .i64 x0, .int .i64 x1], .agg #[.int .i64 x2, .int .i64 x3], .int .i64 z]) (by simp [results, Tryd.results4, go_sem, q0, q1, q2, q3, q4, r0, r1, o0, o1]) rfl ⟨P, B, A, u, n, xa, xc, ya, yc, za, zc, x0, x1, x2, x3, z, rfl, HLEN.out, HRR.out.low (show w0.heap.size ≤ w1.heap.size by omega), HBB.out⟩
      | true =>
        go_upto_region 7 with fail
        refine wp_region_held_drew (S := (fun V => Blk V t7 25 #[.slice xa P.length xc, .slice ya B.length yc, .slice za A.length zc, .int .i64 u, .int .i64 n] ∧ Blk V bx 48 #[.int .i64 x0, .int .i64 x1, .int .i64 x2, .int .i64 x3, .int .i64 x4, .int .i64 x5])) (by kernel_rfl) (⟨HT.out.call (Below.refl wA.heap.size wA).drew, HX.out.call (Below.refl wA.heap.size wA).drew⟩) (fun hHeld => ?_)
        have HO2 := Lib.hid (HO2.out.call (Below.refl wA.heap.size wA).drew)
        have HO3 := Lib.hid (HO3.out.call (Below.refl wA.heap.size wA).drew)
        have HO4 := Lib.hid (HO4.out.call (Below.refl wA.heap.size wA).drew)
        have HRR := Lib.hid (HRR.out.call (Below.refl wA.heap.size wA).drew)
        have HSS := Lib.hid (HSS.out.mono (Below.refl _ _).drew)
        have HBB := Lib.hid (HBB.out.trans ((Below.refl w0.heap.size wA).drew))
        obtain ⟨wd, hwd⟩ : ∃ x, x = wA.drew := ⟨_, rfl⟩
        rw [← hwd] at HO2 HO3 HO4 HRR HSS HBB hHeld ⊢
        clear hwd HT HX
        refine tk 0 hHeld ?_ (hy := fun w hSw => by (try dsimp only at hSw); have k0 := hSw.1.at_ 0 rfl; have k1 := hSw.1.at_ 1 rfl; have k2 := hSw.1.at_ 2 rfl; have k3 := hSw.1.at_ 3 rfl; have k4 := hSw.1.at_ 4 rfl; clear hSw; go_simp; try with_reducible rfl)
        refine tk 1 hHeld ?_
        refine tk 2 hHeld ?_ (hy := fun w hSw => by (try dsimp only at hSw); have k0 := hSw.2.at_ 0 rfl; have k1 := hSw.2.at_ 1 rfl; clear hSw; go_simp; try with_reducible rfl)
        refine tk 3 hHeld ?_
        refine tk 4 hHeld ?_ (hy := fun w hSw => by (try dsimp only at hSw); have k0 := hSw.2.at_ 2 rfl; have k1 := hSw.2.at_ 3 rfl; clear hSw; go_simp; try with_reducible rfl)
        refine tk 6 hHeld ?_
        refine rd2 5 7 (fun K hK => ?_) (fun K hK => ?_)
        · skip
          obtain ⟨U, bs, hU, hbs, hXU, hbU, hbt⟩ := bs_new hHeld.1
          go_simp
          rw [← hU, ← hbs]
          have HO2 := Lib.hid (HO2.out.call hbU)
          have HO3 := Lib.hid (HO3.out.call hbU)
          have HO4 := Lib.hid (HO4.out.call hbU)
          have HRR := Lib.hid (HRR.out.call hbU)
          have HBB := Lib.hid (HBB.out.trans (hbU.mono HBB.out.size))
          try have HSS := Lib.hid (HSS.out.mono (hbU.mono HSS.out.lt))
          have HBS := Lib.hid hXU
          have hs9 : Blk U t7 25 #[.slice xa P.length xc, .slice ya B.length yc, .slice za A.length zc, .int .i64 u, .int .i64 n] ∧ Blk U bx 48 #[.int .i64 x0, .int .i64 x1, .int .i64 x2, .int .i64 x3, .int .i64 x4, .int .i64 x5] := ⟨hHeld.1.call hbU, hHeld.2.call hbU⟩
          clear hU hbs hXU hbU
          refine hK.out _ _ hs9 (fun hHeld => ?_)
          clear hs9
          clear hK K
          refine rd1 7 (fun K hK => ?_)
          go_simp
          go_at_call 20
          refine (n_any g b len cap _ _ HSS.out (by omega)).mono ?_
          rintro e v4 ⟨z, rfl, v0, v1, hs, hb⟩
          have HO2 := Lib.hid (Blk.but HO2.out hb (by omega))
          have HO3 := Lib.hid (Blk.but HO3.out hb (by omega))
          have HO4 := Lib.hid (Blk.but HO4.out hb (by omega))
          have HRR := Lib.hid (r3_but HRR.out (show g < w1.heap.size from hgz) hb)
          have HBB := Lib.hid (HBB.out.trans (hb.below (B := w0.heap.size) HBB.out.size (by omega)))
          obtain ⟨k, m, rfl, hk3, hks⟩ : ∃ (k : Nat) (m : Int), z = (k : Int) ∧ k < 3 ∧ (#[.int .i64 (-1), .int .i64 1000000, .int .i64 1000001] : Array Value)[k]? = some (.int .i64 m) := by
            have : z = 0 ∨ z = 1 ∨ z = 2 := by omega
            rcases this with rfl | rfl | rfl
            · exact ⟨0, _, rfl, by decide, rfl⟩
            · exact ⟨1, _, rfl, by decide, rfl⟩
            · exact ⟨2, _, rfl, by decide, rfl⟩
          have HKS := Lib.hid hks
          have hi0 : (0 : Int) ≤ (k : Int) := Int.natCast_nonneg _
          have hi1 : (k : Int) < 3 := by omega
          try have HBS := Lib.hid (Blk.but HBS.out hb (by omega))
          clear hks
          have HSS := Lib.hid hs
          have hs9 : Blk v4 t7 25 #[.slice xa P.length xc, .slice ya B.length yc, .slice za A.length zc, .int .i64 u, .int .i64 n] ∧ Blk v4 bx 48 #[.int .i64 x0, .int .i64 x1, .int .i64 x2, .int .i64 x3, .int .i64 x4, .int .i64 x5] := ⟨Blk.but hHeld.1 hb (by omega), Blk.but hHeld.2 hb (by omega)⟩
          clear hs hb v0 v1
          refine hK.out _ _ hs9 (fun hHeld => ?_)
          clear hs9
          clear hK K
          refine tk 8 hHeld ?_
          refine rd2 9 10 (fun K hK => ?_) (fun K hK => ?_)
          · skip
            have k0 := HBS.out.at_ k HKS.out
            go_simp
            refine hK.out _ _ hHeld (fun hHeld => ?_)
            clear k0
            clear hK K
            refine rd1 10 (fun K hK => ?_)
            obtain ⟨Z, hZ, hf9, hR9, hbz, hfar⟩ := out_put (u := u) (n := n) HO2.out HRR.out
            have c0 := HO2.out.at_ 0 rfl
            have c1 := HO2.out.at_ 1 rfl
            have c2 := HO2.out.at_ 2 rfl
            have c3 := HO2.out.at_ 3 rfl
            have c4 := HO2.out.at_ 4 rfl
            have s0 := HO2.out.soft 0
            have s1 := HO2.out.soft 1
            have s2 := HO2.out.soft 2
            have s3 := HO2.out.soft 3
            have s4 := HO2.out.soft 4
            go_simp
            rw [← hZ]
            have HO2 := Lib.hid hf9
            have HRR := Lib.hid hR9
            have HBB := Lib.hid (HBB.out.trans (hbz.mono (by omega)))
            have HO3 := Lib.hid (hfar _ _ _ (by omega) HO3.out)
            have HO4 := Lib.hid (hfar _ _ _ (by omega) HO4.out)
            try have HBS := Lib.hid (hfar _ _ _ (by omega) HBS.out)
            have hs9 := (And.intro (hfar _ _ _ (by omega) hHeld.1) (hfar _ _ _ (by omega) hHeld.2))
            clear hZ hf9 hR9 hbz hfar c0 s0 c1 s1 c2 s2 c3 s3 c4 s4
            refine hK.out _ _ hs9 (fun hHeld => ?_)
            clear hs9
            clear hK K
            refine rd1 11 (fun K hK => ?_)
            obtain ⟨Z, hZ, hf9, hR9, hbz, hfar⟩ := lab_put HO3.out HRR.out x0 x1
            have c0 := HO3.out.at_ 0 rfl
            have c1 := HO3.out.at_ 1 rfl
            have s0 := HO3.out.soft 0
            have s1 := HO3.out.soft 1
            go_simp
            rw [← hZ]
            have HO3 := Lib.hid hf9
            have HRR := Lib.hid hR9
            have HBB := Lib.hid (HBB.out.trans (hbz.mono (by omega)))
            have HO2 := Lib.hid (hfar _ _ _ (by omega) HO2.out)
            have HO4 := Lib.hid (hfar _ _ _ (by omega) HO4.out)
            try have HBS := Lib.hid (hfar _ _ _ (by omega) HBS.out)
            have hs9 := (And.intro (hfar _ _ _ (by omega) hHeld.1) (hfar _ _ _ (by omega) hHeld.2))
            clear hZ hf9 hR9 hbz hfar c0 s0 c1 s1
            refine hK.out _ _ hs9 (fun hHeld => ?_)
            clear hs9
            clear hK K
            refine rd1 12 (fun K hK => ?_)
            obtain ⟨Z, hZ, hf9, hR9, hbz, hfar⟩ := lab_put HO4.out HRR.out x2 x3
            have c0 := HO4.out.at_ 0 rfl
            have c1 := HO4.out.at_ 1 rfl
            have s0 := HO4.out.soft 0
            have s1 := HO4.out.soft 1
            go_simp
            rw [← hZ]
            have HO4 := Lib.hid hf9
            have HRR := Lib.hid hR9
            have HBB := Lib.hid (HBB.out.trans (hbz.mono (by omega)))
            have HO2 := Lib.hid (hfar _ _ _ (by omega) HO2.out)
            have HO3 := Lib.hid (hfar _ _ _ (by omega) HO3.out)
            try have HBS := Lib.hid (hfar _ _ _ (by omega) HBS.out)
            have hs9 := (And.intro (hfar _ _ _ (by omega) hHeld.1) (hfar _ _ _ (by omega) hHeld.2))
            clear hZ hf9 hR9 hbz hfar c0 s0 c1 s1
            refine hK.out _ _ hs9 (fun hHeld => ?_)
            clear hs9
            clear hK K
            refine tk 13 hHeld ?_
            refine rd0 ?_
            have q0 := HO2.out.at_ 0 rfl
            have q1 := HO2.out.at_ 1 rfl
            have q2 := HO2.out.at_ 2 rfl
            have q3 := HO2.out.at_ 3 rfl
            have q4 := HO2.out.at_ 4 rfl
            have r0 := HO3.out.at_ 0 rfl
            have r1 := HO3.out.at_ 1 rfl
            have o0 := HO4.out.at_ 0 rfl
            have o1 := HO4.out.at_ 1 rfl
            clear hHeld
            go_wp2
            exact bodyPost_ret (v := .tuple #[.agg #[.slice xa P.length xc, .slice ya B.length yc, .slice za A.length zc, .int .i64 u, .int .i64 n], .agg #[.int .i64 x0, .int .i64 x1], .agg #[.int .i64 x2, .int .i64 x3], .int .i64 m]) (by simp [results, Tryd.results4, go_sem, q0, q1, q2, q3, q4, r0, r1, o0, o1]) rfl ⟨P, B, A, u, n, xa, xc, ya, yc, za, zc, x0, x1, x2, x3, m, rfl, HLEN.out, HRR.out.low (show w0.heap.size ≤ w1.heap.size by omega), HBB.out⟩
          · skip
            obtain ⟨Z, hZ, hf9, hR9, hbz, hfar⟩ := out_put (u := u) (n := n) HO2.out HRR.out
            have c0 := HO2.out.at_ 0 rfl
            have c1 := HO2.out.at_ 1 rfl
            have c2 := HO2.out.at_ 2 rfl
            have c3 := HO2.out.at_ 3 rfl
            have c4 := HO2.out.at_ 4 rfl
            have s0 := HO2.out.soft 0
            have s1 := HO2.out.soft 1
            have s2 := HO2.out.soft 2
            have s3 := HO2.out.soft 3
            have s4 := HO2.out.soft 4
            go_simp
            rw [← hZ]
            have HO2 := Lib.hid hf9
            have HRR := Lib.hid hR9
            have HBB := Lib.hid (HBB.out.trans (hbz.mono (by omega)))
            have HO3 := Lib.hid (hfar _ _ _ (by omega) HO3.out)
            have HO4 := Lib.hid (hfar _ _ _ (by omega) HO4.out)
            try have HBS := Lib.hid (hfar _ _ _ (by omega) HBS.out)
            have hs9 := (And.intro (hfar _ _ _ (by omega) hHeld.1) (hfar _ _ _ (by omega) hHeld.2))
            clear hZ hf9 hR9 hbz hfar c0 s0 c1 s1 c2 s2 c3 s3 c4 s4
            refine hK.out _ _ hs9 (fun hHeld => ?_)
            clear hs9
            clear hK K
            refine rd2 9 11 (fun K hK => ?_) (fun K hK => ?_)
            · skip
              have k0 := HBS.out.at_ k HKS.out
              go_simp
              refine hK.out _ _ hHeld (fun hHeld => ?_)
              clear k0
              clear hK K
              refine rd1 11 (fun K hK => ?_)
              obtain ⟨Z, hZ, hf9, hR9, hbz, hfar⟩ := lab_put HO3.out HRR.out x0 x1
              have c0 := HO3.out.at_ 0 rfl
              have c1 := HO3.out.at_ 1 rfl
              have s0 := HO3.out.soft 0
              have s1 := HO3.out.soft 1
              go_simp
              rw [← hZ]
              have HO3 := Lib.hid hf9
              have HRR := Lib.hid hR9
              have HBB := Lib.hid (HBB.out.trans (hbz.mono (by omega)))
              have HO2 := Lib.hid (hfar _ _ _ (by omega) HO2.out)
              have HO4 := Lib.hid (hfar _ _ _ (by omega) HO4.out)
              try have HBS := Lib.hid (hfar _ _ _ (by omega) HBS.out)
              have hs9 := (And.intro (hfar _ _ _ (by omega) hHeld.1) (hfar _ _ _ (by omega) hHeld.2))
              clear hZ hf9 hR9 hbz hfar c0 s0 c1 s1
              refine hK.out _ _ hs9 (fun hHeld => ?_)
              clear hs9
              clear hK K
              refine rd1 12 (fun K hK => ?_)
              obtain ⟨Z, hZ, hf9, hR9, hbz, hfar⟩ := lab_put HO4.out HRR.out x2 x3
              have c0 := HO4.out.at_ 0 rfl
              have c1 := HO4.out.at_ 1 rfl
              have s0 := HO4.out.soft 0
              have s1 := HO4.out.soft 1
              go_simp
              rw [← hZ]
              have HO4 := Lib.hid hf9
              have HRR := Lib.hid hR9
              have HBB := Lib.hid (HBB.out.trans (hbz.mono (by omega)))
              have HO2 := Lib.hid (hfar _ _ _ (by omega) HO2.out)
              have HO3 := Lib.hid (hfar _ _ _ (by omega) HO3.out)
              try have HBS := Lib.hid (hfar _ _ _ (by omega) HBS.out)
              have hs9 := (And.intro (hfar _ _ _ (by omega) hHeld.1) (hfar _ _ _ (by omega) hHeld.2))
              clear hZ hf9 hR9 hbz hfar c0 s0 c1 s1
              refine hK.out _ _ hs9 (fun hHeld => ?_)
              clear hs9
              clear hK K
              refine tk 13 hHeld ?_
              refine rd0 ?_
              have q0 := HO2.out.at_ 0 rfl
              have q1 := HO2.out.at_ 1 rfl
              have q2 := HO2.out.at_ 2 rfl
              have q3 := HO2.out.at_ 3 rfl
              have q4 := HO2.out.at_ 4 rfl
              have r0 := HO3.out.at_ 0 rfl
              have r1 := HO3.out.at_ 1 rfl
              have o0 := HO4.out.at_ 0 rfl
              have o1 := HO4.out.at_ 1 rfl
              clear hHeld
              go_wp2
              exact bodyPost_ret (v := .tuple #[.agg #[.slice xa P.length xc, .slice ya B.length yc, .slice za A.length zc, .int .i64 u, .int .i64 n], .agg #[.int .i64 x0, .int .i64 x1], .agg #[.int .i64 x2, .int .i64 x3], .int .i64 m]) (by simp [results, Tryd.results4, go_sem, q0, q1, q2, q3, q4, r0, r1, o0, o1]) rfl ⟨P, B, A, u, n, xa, xc, ya, yc, za, zc, x0, x1, x2, x3, m, rfl, HLEN.out, HRR.out.low (show w0.heap.size ≤ w1.heap.size by omega), HBB.out⟩
            · skip
              obtain ⟨Z, hZ, hf9, hR9, hbz, hfar⟩ := lab_put HO3.out HRR.out x0 x1
              have c0 := HO3.out.at_ 0 rfl
              have c1 := HO3.out.at_ 1 rfl
              have s0 := HO3.out.soft 0
              have s1 := HO3.out.soft 1
              go_simp
              rw [← hZ]
              have HO3 := Lib.hid hf9
              have HRR := Lib.hid hR9
              have HBB := Lib.hid (HBB.out.trans (hbz.mono (by omega)))
              have HO2 := Lib.hid (hfar _ _ _ (by omega) HO2.out)
              have HO4 := Lib.hid (hfar _ _ _ (by omega) HO4.out)
              try have HBS := Lib.hid (hfar _ _ _ (by omega) HBS.out)
              have hs9 := (And.intro (hfar _ _ _ (by omega) hHeld.1) (hfar _ _ _ (by omega) hHeld.2))
              clear hZ hf9 hR9 hbz hfar c0 s0 c1 s1
              refine hK.out _ _ hs9 (fun hHeld => ?_)
              clear hs9
              clear hK K
              refine rd2 9 12 (fun K hK => ?_) (fun K hK => ?_)
              · skip
                have k0 := HBS.out.at_ k HKS.out
                go_simp
                refine hK.out _ _ hHeld (fun hHeld => ?_)
                clear k0
                clear hK K
                refine rd1 12 (fun K hK => ?_)
                obtain ⟨Z, hZ, hf9, hR9, hbz, hfar⟩ := lab_put HO4.out HRR.out x2 x3
                have c0 := HO4.out.at_ 0 rfl
                have c1 := HO4.out.at_ 1 rfl
                have s0 := HO4.out.soft 0
                have s1 := HO4.out.soft 1
                go_simp
                rw [← hZ]
                have HO4 := Lib.hid hf9
                have HRR := Lib.hid hR9
                have HBB := Lib.hid (HBB.out.trans (hbz.mono (by omega)))
                have HO2 := Lib.hid (hfar _ _ _ (by omega) HO2.out)
                have HO3 := Lib.hid (hfar _ _ _ (by omega) HO3.out)
                try have HBS := Lib.hid (hfar _ _ _ (by omega) HBS.out)
                have hs9 := (And.intro (hfar _ _ _ (by omega) hHeld.1) (hfar _ _ _ (by omega) hHeld.2))
                clear hZ hf9 hR9 hbz hfar c0 s0 c1 s1
                refine hK.out _ _ hs9 (fun hHeld => ?_)
                clear hs9
                clear hK K
                refine tk 13 hHeld ?_
                refine rd0 ?_
                have q0 := HO2.out.at_ 0 rfl
                have q1 := HO2.out.at_ 1 rfl
                have q2 := HO2.out.at_ 2 rfl
                have q3 := HO2.out.at_ 3 rfl
                have q4 := HO2.out.at_ 4 rfl
                have r0 := HO3.out.at_ 0 rfl
                have r1 := HO3.out.at_ 1 rfl
                have o0 := HO4.out.at_ 0 rfl
                have o1 := HO4.out.at_ 1 rfl
                clear hHeld
                go_wp2
                exact bodyPost_ret (v := .tuple #[.agg #[.slice xa P.length xc, .slice ya B.length yc, .slice za A.length zc, .int .i64 u, .int .i64 n], .agg #[.int .i64 x0, .int .i64 x1], .agg #[.int .i64 x2, .int .i64 x3], .int .i64 m]) (by simp [results, Tryd.results4, go_sem, q0, q1, q2, q3, q4, r0, r1, o0, o1]) rfl ⟨P, B, A, u, n, xa, xc, ya, yc, za, zc, x0, x1, x2, x3, m, rfl, HLEN.out, HRR.out.low (show w0.heap.size ≤ w1.heap.size by omega), HBB.out⟩
              · skip
                obtain ⟨Z, hZ, hf9, hR9, hbz, hfar⟩ := lab_put HO4.out HRR.out x2 x3
                have c0 := HO4.out.at_ 0 rfl
                have c1 := HO4.out.at_ 1 rfl
                have s0 := HO4.out.soft 0
                have s1 := HO4.out.soft 1
                go_simp
                rw [← hZ]
                have HO4 := Lib.hid hf9
                have HRR := Lib.hid hR9
                have HBB := Lib.hid (HBB.out.trans (hbz.mono (by omega)))
                have HO2 := Lib.hid (hfar _ _ _ (by omega) HO2.out)
                have HO3 := Lib.hid (hfar _ _ _ (by omega) HO3.out)
                try have HBS := Lib.hid (hfar _ _ _ (by omega) HBS.out)
                have hs9 := (And.intro (hfar _ _ _ (by omega) hHeld.1) (hfar _ _ _ (by omega) hHeld.2))
                clear hZ hf9 hR9 hbz hfar c0 s0 c1 s1
                refine hK.out _ _ hs9 (fun hHeld => ?_)
                clear hs9
                clear hK K
                refine rd1 9 (fun K hK => ?_)
                have k0 := HBS.out.at_ k HKS.out
                go_simp
                refine hK.out _ _ hHeld (fun hHeld => ?_)
                clear k0
                clear hK K
                refine tk 13 hHeld ?_
                refine rd0 ?_
                have q0 := HO2.out.at_ 0 rfl
                have q1 := HO2.out.at_ 1 rfl
                have q2 := HO2.out.at_ 2 rfl
                have q3 := HO2.out.at_ 3 rfl
                have q4 := HO2.out.at_ 4 rfl
                have r0 := HO3.out.at_ 0 rfl
                have r1 := HO3.out.at_ 1 rfl
                have o0 := HO4.out.at_ 0 rfl
                have o1 := HO4.out.at_ 1 rfl
                clear hHeld
                go_wp2
                exact bodyPost_ret (v := .tuple #[.agg #[.slice xa P.length xc, .slice ya B.length yc, .slice za A.length zc, .int .i64 u, .int .i64 n], .agg #[.int .i64 x0, .int .i64 x1], .agg #[.int .i64 x2, .int .i64 x3], .int .i64 m]) (by simp [results, Tryd.results4, go_sem, q0, q1, q2, q3, q4, r0, r1, o0, o1]) rfl ⟨P, B, A, u, n, xa, xc, ya, yc, za, zc, x0, x1, x2, x3, m, rfl, HLEN.out, HRR.out.low (show w0.heap.size ≤ w1.heap.size by omega), HBB.out⟩
        · skip
          go_simp
          go_at_call 20
          refine (n_any g b len cap _ _ HSS.out (by omega)).mono ?_
          rintro e v4 ⟨z, rfl, v0, v1, hs, hb⟩
          have HO2 := Lib.hid (Blk.but HO2.out hb (by omega))
          have HO3 := Lib.hid (Blk.but HO3.out hb (by omega))
          have HO4 := Lib.hid (Blk.but HO4.out hb (by omega))
          have HRR := Lib.hid (r3_but HRR.out (show g < w1.heap.size from hgz) hb)
          have HBB := Lib.hid (HBB.out.trans (hb.below (B := w0.heap.size) HBB.out.size (by omega)))
          obtain ⟨k, m, rfl, hk3, hks⟩ : ∃ (k : Nat) (m : Int), z = (k : Int) ∧ k < 3 ∧ (#[.int .i64 (-1), .int .i64 1000000, .int .i64 1000001] : Array Value)[k]? = some (.int .i64 m) := by
            have : z = 0 ∨ z = 1 ∨ z = 2 := by omega
            rcases this with rfl | rfl | rfl
            · exact ⟨0, _, rfl, by decide, rfl⟩
            · exact ⟨1, _, rfl, by decide, rfl⟩
            · exact ⟨2, _, rfl, by decide, rfl⟩
          have HKS := Lib.hid hks
          have hi0 : (0 : Int) ≤ (k : Int) := Int.natCast_nonneg _
          have hi1 : (k : Int) < 3 := by omega
          try have HBS := Lib.hid (Blk.but HBS.out hb (by omega))
          clear hks
          have HSS := Lib.hid hs
          have hs9 : Blk v4 t7 25 #[.slice xa P.length xc, .slice ya B.length yc, .slice za A.length zc, .int .i64 u, .int .i64 n] ∧ Blk v4 bx 48 #[.int .i64 x0, .int .i64 x1, .int .i64 x2, .int .i64 x3, .int .i64 x4, .int .i64 x5] := ⟨Blk.but hHeld.1 hb (by omega), Blk.but hHeld.2 hb (by omega)⟩
          clear hs hb v0 v1
          refine hK.out _ _ hs9 (fun hHeld => ?_)
          clear hs9
          clear hK K
          refine rd2 5 10 (fun K hK => ?_) (fun K hK => ?_)
          · skip
            obtain ⟨U, bs, hU, hbs, hXU, hbU, hbt⟩ := bs_new hHeld.1
            go_simp
            rw [← hU, ← hbs]
            have HO2 := Lib.hid (HO2.out.call hbU)
            have HO3 := Lib.hid (HO3.out.call hbU)
            have HO4 := Lib.hid (HO4.out.call hbU)
            have HRR := Lib.hid (HRR.out.call hbU)
            have HBB := Lib.hid (HBB.out.trans (hbU.mono HBB.out.size))
            try have HSS := Lib.hid (HSS.out.mono (hbU.mono HSS.out.lt))
            have HBS := Lib.hid hXU
            have hs9 : Blk U t7 25 #[.slice xa P.length xc, .slice ya B.length yc, .slice za A.length zc, .int .i64 u, .int .i64 n] ∧ Blk U bx 48 #[.int .i64 x0, .int .i64 x1, .int .i64 x2, .int .i64 x3, .int .i64 x4, .int .i64 x5] := ⟨hHeld.1.call hbU, hHeld.2.call hbU⟩
            clear hU hbs hXU hbU
            refine hK.out _ _ hs9 (fun hHeld => ?_)
            clear hs9
            clear hK K
            refine tk 8 hHeld ?_
            refine rd2 9 10 (fun K hK => ?_) (fun K hK => ?_)
            · skip
              have k0 := HBS.out.at_ k HKS.out
              go_simp
              refine hK.out _ _ hHeld (fun hHeld => ?_)
              clear k0
              clear hK K
              refine rd1 10 (fun K hK => ?_)
              obtain ⟨Z, hZ, hf9, hR9, hbz, hfar⟩ := out_put (u := u) (n := n) HO2.out HRR.out
              have c0 := HO2.out.at_ 0 rfl
              have c1 := HO2.out.at_ 1 rfl
              have c2 := HO2.out.at_ 2 rfl
              have c3 := HO2.out.at_ 3 rfl
              have c4 := HO2.out.at_ 4 rfl
              have s0 := HO2.out.soft 0
              have s1 := HO2.out.soft 1
              have s2 := HO2.out.soft 2
              have s3 := HO2.out.soft 3
              have s4 := HO2.out.soft 4
              go_simp
              rw [← hZ]
              have HO2 := Lib.hid hf9
              have HRR := Lib.hid hR9
              have HBB := Lib.hid (HBB.out.trans (hbz.mono (by omega)))
              have HO3 := Lib.hid (hfar _ _ _ (by omega) HO3.out)
              have HO4 := Lib.hid (hfar _ _ _ (by omega) HO4.out)
              try have HBS := Lib.hid (hfar _ _ _ (by omega) HBS.out)
              have hs9 := (And.intro (hfar _ _ _ (by omega) hHeld.1) (hfar _ _ _ (by omega) hHeld.2))
              clear hZ hf9 hR9 hbz hfar c0 s0 c1 s1 c2 s2 c3 s3 c4 s4
              refine hK.out _ _ hs9 (fun hHeld => ?_)
              clear hs9
              clear hK K
              refine rd1 11 (fun K hK => ?_)
              obtain ⟨Z, hZ, hf9, hR9, hbz, hfar⟩ := lab_put HO3.out HRR.out x0 x1
              have c0 := HO3.out.at_ 0 rfl
              have c1 := HO3.out.at_ 1 rfl
              have s0 := HO3.out.soft 0
              have s1 := HO3.out.soft 1
              go_simp
              rw [← hZ]
              have HO3 := Lib.hid hf9
              have HRR := Lib.hid hR9
              have HBB := Lib.hid (HBB.out.trans (hbz.mono (by omega)))
              have HO2 := Lib.hid (hfar _ _ _ (by omega) HO2.out)
              have HO4 := Lib.hid (hfar _ _ _ (by omega) HO4.out)
              try have HBS := Lib.hid (hfar _ _ _ (by omega) HBS.out)
              have hs9 := (And.intro (hfar _ _ _ (by omega) hHeld.1) (hfar _ _ _ (by omega) hHeld.2))
              clear hZ hf9 hR9 hbz hfar c0 s0 c1 s1
              refine hK.out _ _ hs9 (fun hHeld => ?_)
              clear hs9
              clear hK K
              refine rd1 12 (fun K hK => ?_)
              obtain ⟨Z, hZ, hf9, hR9, hbz, hfar⟩ := lab_put HO4.out HRR.out x2 x3
              have c0 := HO4.out.at_ 0 rfl
              have c1 := HO4.out.at_ 1 rfl
              have s0 := HO4.out.soft 0
              have s1 := HO4.out.soft 1
              go_simp
              rw [← hZ]
              have HO4 := Lib.hid hf9
              have HRR := Lib.hid hR9
              have HBB := Lib.hid (HBB.out.trans (hbz.mono (by omega)))
              have HO2 := Lib.hid (hfar _ _ _ (by omega) HO2.out)
              have HO3 := Lib.hid (hfar _ _ _ (by omega) HO3.out)
              try have HBS := Lib.hid (hfar _ _ _ (by omega) HBS.out)
              have hs9 := (And.intro (hfar _ _ _ (by omega) hHeld.1) (hfar _ _ _ (by omega) hHeld.2))
              clear hZ hf9 hR9 hbz hfar c0 s0 c1 s1
              refine hK.out _ _ hs9 (fun hHeld => ?_)
              clear hs9
              clear hK K
              refine tk 13 hHeld ?_
              refine rd0 ?_
              have q0 := HO2.out.at_ 0 rfl
              have q1 := HO2.out.at_ 1 rfl
              have q2 := HO2.out.at_ 2 rfl
              have q3 := HO2.out.at_ 3 rfl
              have q4 := HO2.out.at_ 4 rfl
              have r0 := HO3.out.at_ 0 rfl
              have r1 := HO3.out.at_ 1 rfl
              have o0 := HO4.out.at_ 0 rfl
              have o1 := HO4.out.at_ 1 rfl
              clear hHeld
              go_wp2
              exact bodyPost_ret (v := .tuple #[.agg #[.slice xa P.length xc, .slice ya B.length yc, .slice za A.length zc, .int .i64 u, .int .i64 n], .agg #[.int .i64 x0, .int .i64 x1], .agg #[.int .i64 x2, .int .i64 x3], .int .i64 m]) (by simp [results, Tryd.results4, go_sem, q0, q1, q2, q3, q4, r0, r1, o0, o1]) rfl ⟨P, B, A, u, n, xa, xc, ya, yc, za, zc, x0, x1, x2, x3, m, rfl, HLEN.out, HRR.out.low (show w0.heap.size ≤ w1.heap.size by omega), HBB.out⟩
            · skip
              obtain ⟨Z, hZ, hf9, hR9, hbz, hfar⟩ := out_put (u := u) (n := n) HO2.out HRR.out
              have c0 := HO2.out.at_ 0 rfl
              have c1 := HO2.out.at_ 1 rfl
              have c2 := HO2.out.at_ 2 rfl
              have c3 := HO2.out.at_ 3 rfl
              have c4 := HO2.out.at_ 4 rfl
              have s0 := HO2.out.soft 0
              have s1 := HO2.out.soft 1
              have s2 := HO2.out.soft 2
              have s3 := HO2.out.soft 3
              have s4 := HO2.out.soft 4
              go_simp
              rw [← hZ]
              have HO2 := Lib.hid hf9
              have HRR := Lib.hid hR9
              have HBB := Lib.hid (HBB.out.trans (hbz.mono (by omega)))
              have HO3 := Lib.hid (hfar _ _ _ (by omega) HO3.out)
              have HO4 := Lib.hid (hfar _ _ _ (by omega) HO4.out)
              try have HBS := Lib.hid (hfar _ _ _ (by omega) HBS.out)
              have hs9 := (And.intro (hfar _ _ _ (by omega) hHeld.1) (hfar _ _ _ (by omega) hHeld.2))
              clear hZ hf9 hR9 hbz hfar c0 s0 c1 s1 c2 s2 c3 s3 c4 s4
              refine hK.out _ _ hs9 (fun hHeld => ?_)
              clear hs9
              clear hK K
              refine rd2 9 11 (fun K hK => ?_) (fun K hK => ?_)
              · skip
                have k0 := HBS.out.at_ k HKS.out
                go_simp
                refine hK.out _ _ hHeld (fun hHeld => ?_)
                clear k0
                clear hK K
                refine rd1 11 (fun K hK => ?_)
                obtain ⟨Z, hZ, hf9, hR9, hbz, hfar⟩ := lab_put HO3.out HRR.out x0 x1
                have c0 := HO3.out.at_ 0 rfl
                have c1 := HO3.out.at_ 1 rfl
                have s0 := HO3.out.soft 0
                have s1 := HO3.out.soft 1
                go_simp
                rw [← hZ]
                have HO3 := Lib.hid hf9
                have HRR := Lib.hid hR9
                have HBB := Lib.hid (HBB.out.trans (hbz.mono (by omega)))
                have HO2 := Lib.hid (hfar _ _ _ (by omega) HO2.out)
                have HO4 := Lib.hid (hfar _ _ _ (by omega) HO4.out)
                try have HBS := Lib.hid (hfar _ _ _ (by omega) HBS.out)
                have hs9 := (And.intro (hfar _ _ _ (by omega) hHeld.1) (hfar _ _ _ (by omega) hHeld.2))
                clear hZ hf9 hR9 hbz hfar c0 s0 c1 s1
                refine hK.out _ _ hs9 (fun hHeld => ?_)
                clear hs9
                clear hK K
                refine rd1 12 (fun K hK => ?_)
                obtain ⟨Z, hZ, hf9, hR9, hbz, hfar⟩ := lab_put HO4.out HRR.out x2 x3
                have c0 := HO4.out.at_ 0 rfl
                have c1 := HO4.out.at_ 1 rfl
                have s0 := HO4.out.soft 0
                have s1 := HO4.out.soft 1
                go_simp
                rw [← hZ]
                have HO4 := Lib.hid hf9
                have HRR := Lib.hid hR9
                have HBB := Lib.hid (HBB.out.trans (hbz.mono (by omega)))
                have HO2 := Lib.hid (hfar _ _ _ (by omega) HO2.out)
                have HO3 := Lib.hid (hfar _ _ _ (by omega) HO3.out)
                try have HBS := Lib.hid (hfar _ _ _ (by omega) HBS.out)
                have hs9 := (And.intro (hfar _ _ _ (by omega) hHeld.1) (hfar _ _ _ (by omega) hHeld.2))
                clear hZ hf9 hR9 hbz hfar c0 s0 c1 s1
                refine hK.out _ _ hs9 (fun hHeld => ?_)
                clear hs9
                clear hK K
                refine tk 13 hHeld ?_
                refine rd0 ?_
                have q0 := HO2.out.at_ 0 rfl
                have q1 := HO2.out.at_ 1 rfl
                have q2 := HO2.out.at_ 2 rfl
                have q3 := HO2.out.at_ 3 rfl
                have q4 := HO2.out.at_ 4 rfl
                have r0 := HO3.out.at_ 0 rfl
                have r1 := HO3.out.at_ 1 rfl
                have o0 := HO4.out.at_ 0 rfl
                have o1 := HO4.out.at_ 1 rfl
                clear hHeld
                go_wp2
                exact bodyPost_ret (v := .tuple #[.agg #[.slice xa P.length xc, .slice ya B.length yc, .slice za A.length zc, .int .i64 u, .int .i64 n], .agg #[.int .i64 x0, .int .i64 x1], .agg #[.int .i64 x2, .int .i64 x3], .int .i64 m]) (by simp [results, Tryd.results4, go_sem, q0, q1, q2, q3, q4, r0, r1, o0, o1]) rfl ⟨P, B, A, u, n, xa, xc, ya, yc, za, zc, x0, x1, x2, x3, m, rfl, HLEN.out, HRR.out.low (show w0.heap.size ≤ w1.heap.size by omega), HBB.out⟩
              · skip
                obtain ⟨Z, hZ, hf9, hR9, hbz, hfar⟩ := lab_put HO3.out HRR.out x0 x1
                have c0 := HO3.out.at_ 0 rfl
                have c1 := HO3.out.at_ 1 rfl
                have s0 := HO3.out.soft 0
                have s1 := HO3.out.soft 1
                go_simp
                rw [← hZ]
                have HO3 := Lib.hid hf9
                have HRR := Lib.hid hR9
                have HBB := Lib.hid (HBB.out.trans (hbz.mono (by omega)))
                have HO2 := Lib.hid (hfar _ _ _ (by omega) HO2.out)
                have HO4 := Lib.hid (hfar _ _ _ (by omega) HO4.out)
                try have HBS := Lib.hid (hfar _ _ _ (by omega) HBS.out)
                have hs9 := (And.intro (hfar _ _ _ (by omega) hHeld.1) (hfar _ _ _ (by omega) hHeld.2))
                clear hZ hf9 hR9 hbz hfar c0 s0 c1 s1
                refine hK.out _ _ hs9 (fun hHeld => ?_)
                clear hs9
                clear hK K
                refine rd2 9 12 (fun K hK => ?_) (fun K hK => ?_)
                · skip
                  have k0 := HBS.out.at_ k HKS.out
                  go_simp
                  refine hK.out _ _ hHeld (fun hHeld => ?_)
                  clear k0
                  clear hK K
                  refine rd1 12 (fun K hK => ?_)
                  obtain ⟨Z, hZ, hf9, hR9, hbz, hfar⟩ := lab_put HO4.out HRR.out x2 x3
                  have c0 := HO4.out.at_ 0 rfl
                  have c1 := HO4.out.at_ 1 rfl
                  have s0 := HO4.out.soft 0
                  have s1 := HO4.out.soft 1
                  go_simp
                  rw [← hZ]
                  have HO4 := Lib.hid hf9
                  have HRR := Lib.hid hR9
                  have HBB := Lib.hid (HBB.out.trans (hbz.mono (by omega)))
                  have HO2 := Lib.hid (hfar _ _ _ (by omega) HO2.out)
                  have HO3 := Lib.hid (hfar _ _ _ (by omega) HO3.out)
                  try have HBS := Lib.hid (hfar _ _ _ (by omega) HBS.out)
                  have hs9 := (And.intro (hfar _ _ _ (by omega) hHeld.1) (hfar _ _ _ (by omega) hHeld.2))
                  clear hZ hf9 hR9 hbz hfar c0 s0 c1 s1
                  refine hK.out _ _ hs9 (fun hHeld => ?_)
                  clear hs9
                  clear hK K
                  refine tk 13 hHeld ?_
                  refine rd0 ?_
                  have q0 := HO2.out.at_ 0 rfl
                  have q1 := HO2.out.at_ 1 rfl
                  have q2 := HO2.out.at_ 2 rfl
                  have q3 := HO2.out.at_ 3 rfl
                  have q4 := HO2.out.at_ 4 rfl
                  have r0 := HO3.out.at_ 0 rfl
                  have r1 := HO3.out.at_ 1 rfl
                  have o0 := HO4.out.at_ 0 rfl
                  have o1 := HO4.out.at_ 1 rfl
                  clear hHeld
                  go_wp2
                  exact bodyPost_ret (v := .tuple #[.agg #[.slice xa P.length xc, .slice ya B.length yc, .slice za A.length zc, .int .i64 u, .int .i64 n], .agg #[.int .i64 x0, .int .i64 x1], .agg #[.int .i64 x2, .int .i64 x3], .int .i64 m]) (by simp [results, Tryd.results4, go_sem, q0, q1, q2, q3, q4, r0, r1, o0, o1]) rfl ⟨P, B, A, u, n, xa, xc, ya, yc, za, zc, x0, x1, x2, x3, m, rfl, HLEN.out, HRR.out.low (show w0.heap.size ≤ w1.heap.size by omega), HBB.out⟩
                · skip
                  obtain ⟨Z, hZ, hf9, hR9, hbz, hfar⟩ := lab_put HO4.out HRR.out x2 x3
                  have c0 := HO4.out.at_ 0 rfl
                  have c1 := HO4.out.at_ 1 rfl
                  have s0 := HO4.out.soft 0
                  have s1 := HO4.out.soft 1
                  go_simp
                  rw [← hZ]
                  have HO4 := Lib.hid hf9
                  have HRR := Lib.hid hR9
                  have HBB := Lib.hid (HBB.out.trans (hbz.mono (by omega)))
                  have HO2 := Lib.hid (hfar _ _ _ (by omega) HO2.out)
                  have HO3 := Lib.hid (hfar _ _ _ (by omega) HO3.out)
                  try have HBS := Lib.hid (hfar _ _ _ (by omega) HBS.out)
                  have hs9 := (And.intro (hfar _ _ _ (by omega) hHeld.1) (hfar _ _ _ (by omega) hHeld.2))
                  clear hZ hf9 hR9 hbz hfar c0 s0 c1 s1
                  refine hK.out _ _ hs9 (fun hHeld => ?_)
                  clear hs9
                  clear hK K
                  refine rd1 9 (fun K hK => ?_)
                  have k0 := HBS.out.at_ k HKS.out
                  go_simp
                  refine hK.out _ _ hHeld (fun hHeld => ?_)
                  clear k0
                  clear hK K
                  refine tk 13 hHeld ?_
                  refine rd0 ?_
                  have q0 := HO2.out.at_ 0 rfl
                  have q1 := HO2.out.at_ 1 rfl
                  have q2 := HO2.out.at_ 2 rfl
                  have q3 := HO2.out.at_ 3 rfl
                  have q4 := HO2.out.at_ 4 rfl
                  have r0 := HO3.out.at_ 0 rfl
                  have r1 := HO3.out.at_ 1 rfl
                  have o0 := HO4.out.at_ 0 rfl
                  have o1 := HO4.out.at_ 1 rfl
                  clear hHeld
                  go_wp2
                  exact bodyPost_ret (v := .tuple #[.agg #[.slice xa P.length xc, .slice ya B.length yc, .slice za A.length zc, .int .i64 u, .int .i64 n], .agg #[.int .i64 x0, .int .i64 x1], .agg #[.int .i64 x2, .int .i64 x3], .int .i64 m]) (by simp [results, Tryd.results4, go_sem, q0, q1, q2, q3, q4, r0, r1, o0, o1]) rfl ⟨P, B, A, u, n, xa, xc, ya, yc, za, zc, x0, x1, x2, x3, m, rfl, HLEN.out, HRR.out.low (show w0.heap.size ≤ w1.heap.size by omega), HBB.out⟩
          · skip
            obtain ⟨Z, hZ, hf9, hR9, hbz, hfar⟩ := out_put (u := u) (n := n) HO2.out HRR.out
            have c0 := HO2.out.at_ 0 rfl
            have c1 := HO2.out.at_ 1 rfl
            have c2 := HO2.out.at_ 2 rfl
            have c3 := HO2.out.at_ 3 rfl
            have c4 := HO2.out.at_ 4 rfl
            have s0 := HO2.out.soft 0
            have s1 := HO2.out.soft 1
            have s2 := HO2.out.soft 2
            have s3 := HO2.out.soft 3
            have s4 := HO2.out.soft 4
            go_simp
            rw [← hZ]
            have HO2 := Lib.hid hf9
            have HRR := Lib.hid hR9
            have HBB := Lib.hid (HBB.out.trans (hbz.mono (by omega)))
            have HO3 := Lib.hid (hfar _ _ _ (by omega) HO3.out)
            have HO4 := Lib.hid (hfar _ _ _ (by omega) HO4.out)
            try have HBS := Lib.hid (hfar _ _ _ (by omega) HBS.out)
            have hs9 := (And.intro (hfar _ _ _ (by omega) hHeld.1) (hfar _ _ _ (by omega) hHeld.2))
            clear hZ hf9 hR9 hbz hfar c0 s0 c1 s1 c2 s2 c3 s3 c4 s4
            refine hK.out _ _ hs9 (fun hHeld => ?_)
            clear hs9
            clear hK K
            refine rd2 5 11 (fun K hK => ?_) (fun K hK => ?_)
            · skip
              obtain ⟨U, bs, hU, hbs, hXU, hbU, hbt⟩ := bs_new hHeld.1
              go_simp
              rw [← hU, ← hbs]
              have HO2 := Lib.hid (HO2.out.call hbU)
              have HO3 := Lib.hid (HO3.out.call hbU)
              have HO4 := Lib.hid (HO4.out.call hbU)
              have HRR := Lib.hid (HRR.out.call hbU)
              have HBB := Lib.hid (HBB.out.trans (hbU.mono HBB.out.size))
              try have HSS := Lib.hid (HSS.out.mono (hbU.mono HSS.out.lt))
              have HBS := Lib.hid hXU
              have hs9 : Blk U t7 25 #[.slice xa P.length xc, .slice ya B.length yc, .slice za A.length zc, .int .i64 u, .int .i64 n] ∧ Blk U bx 48 #[.int .i64 x0, .int .i64 x1, .int .i64 x2, .int .i64 x3, .int .i64 x4, .int .i64 x5] := ⟨hHeld.1.call hbU, hHeld.2.call hbU⟩
              clear hU hbs hXU hbU
              refine hK.out _ _ hs9 (fun hHeld => ?_)
              clear hs9
              clear hK K
              refine tk 8 hHeld ?_
              refine rd2 9 11 (fun K hK => ?_) (fun K hK => ?_)
              · skip
                have k0 := HBS.out.at_ k HKS.out
                go_simp
                refine hK.out _ _ hHeld (fun hHeld => ?_)
                clear k0
                clear hK K
                refine rd1 11 (fun K hK => ?_)
                obtain ⟨Z, hZ, hf9, hR9, hbz, hfar⟩ := lab_put HO3.out HRR.out x0 x1
                have c0 := HO3.out.at_ 0 rfl
                have c1 := HO3.out.at_ 1 rfl
                have s0 := HO3.out.soft 0
                have s1 := HO3.out.soft 1
                go_simp
                rw [← hZ]
                have HO3 := Lib.hid hf9
                have HRR := Lib.hid hR9
                have HBB := Lib.hid (HBB.out.trans (hbz.mono (by omega)))
                have HO2 := Lib.hid (hfar _ _ _ (by omega) HO2.out)
                have HO4 := Lib.hid (hfar _ _ _ (by omega) HO4.out)
                try have HBS := Lib.hid (hfar _ _ _ (by omega) HBS.out)
                have hs9 := (And.intro (hfar _ _ _ (by omega) hHeld.1) (hfar _ _ _ (by omega) hHeld.2))
                clear hZ hf9 hR9 hbz hfar c0 s0 c1 s1
                refine hK.out _ _ hs9 (fun hHeld => ?_)
                clear hs9
                clear hK K
                refine rd1 12 (fun K hK => ?_)
                obtain ⟨Z, hZ, hf9, hR9, hbz, hfar⟩ := lab_put HO4.out HRR.out x2 x3
                have c0 := HO4.out.at_ 0 rfl
                have c1 := HO4.out.at_ 1 rfl
                have s0 := HO4.out.soft 0
                have s1 := HO4.out.soft 1
                go_simp
                rw [← hZ]
                have HO4 := Lib.hid hf9
                have HRR := Lib.hid hR9
                have HBB := Lib.hid (HBB.out.trans (hbz.mono (by omega)))
                have HO2 := Lib.hid (hfar _ _ _ (by omega) HO2.out)
                have HO3 := Lib.hid (hfar _ _ _ (by omega) HO3.out)
                try have HBS := Lib.hid (hfar _ _ _ (by omega) HBS.out)
                have hs9 := (And.intro (hfar _ _ _ (by omega) hHeld.1) (hfar _ _ _ (by omega) hHeld.2))
                clear hZ hf9 hR9 hbz hfar c0 s0 c1 s1
                refine hK.out _ _ hs9 (fun hHeld => ?_)
                clear hs9
                clear hK K
                refine tk 13 hHeld ?_
                refine rd0 ?_
                have q0 := HO2.out.at_ 0 rfl
                have q1 := HO2.out.at_ 1 rfl
                have q2 := HO2.out.at_ 2 rfl
                have q3 := HO2.out.at_ 3 rfl
                have q4 := HO2.out.at_ 4 rfl
                have r0 := HO3.out.at_ 0 rfl
                have r1 := HO3.out.at_ 1 rfl
                have o0 := HO4.out.at_ 0 rfl
                have o1 := HO4.out.at_ 1 rfl
                clear hHeld
                go_wp2
                exact bodyPost_ret (v := .tuple #[.agg #[.slice xa P.length xc, .slice ya B.length yc, .slice za A.length zc, .int .i64 u, .int .i64 n], .agg #[.int .i64 x0, .int .i64 x1], .agg #[.int .i64 x2, .int .i64 x3], .int .i64 m]) (by simp [results, Tryd.results4, go_sem, q0, q1, q2, q3, q4, r0, r1, o0, o1]) rfl ⟨P, B, A, u, n, xa, xc, ya, yc, za, zc, x0, x1, x2, x3, m, rfl, HLEN.out, HRR.out.low (show w0.heap.size ≤ w1.heap.size by omega), HBB.out⟩
              · skip
                obtain ⟨Z, hZ, hf9, hR9, hbz, hfar⟩ := lab_put HO3.out HRR.out x0 x1
                have c0 := HO3.out.at_ 0 rfl
                have c1 := HO3.out.at_ 1 rfl
                have s0 := HO3.out.soft 0
                have s1 := HO3.out.soft 1
                go_simp
                rw [← hZ]
                have HO3 := Lib.hid hf9
                have HRR := Lib.hid hR9
                have HBB := Lib.hid (HBB.out.trans (hbz.mono (by omega)))
                have HO2 := Lib.hid (hfar _ _ _ (by omega) HO2.out)
                have HO4 := Lib.hid (hfar _ _ _ (by omega) HO4.out)
                try have HBS := Lib.hid (hfar _ _ _ (by omega) HBS.out)
                have hs9 := (And.intro (hfar _ _ _ (by omega) hHeld.1) (hfar _ _ _ (by omega) hHeld.2))
                clear hZ hf9 hR9 hbz hfar c0 s0 c1 s1
                refine hK.out _ _ hs9 (fun hHeld => ?_)
                clear hs9
                clear hK K
                refine rd2 9 12 (fun K hK => ?_) (fun K hK => ?_)
                · skip
                  have k0 := HBS.out.at_ k HKS.out
                  go_simp
                  refine hK.out _ _ hHeld (fun hHeld => ?_)
                  clear k0
                  clear hK K
                  refine rd1 12 (fun K hK => ?_)
                  obtain ⟨Z, hZ, hf9, hR9, hbz, hfar⟩ := lab_put HO4.out HRR.out x2 x3
                  have c0 := HO4.out.at_ 0 rfl
                  have c1 := HO4.out.at_ 1 rfl
                  have s0 := HO4.out.soft 0
                  have s1 := HO4.out.soft 1
                  go_simp
                  rw [← hZ]
                  have HO4 := Lib.hid hf9
                  have HRR := Lib.hid hR9
                  have HBB := Lib.hid (HBB.out.trans (hbz.mono (by omega)))
                  have HO2 := Lib.hid (hfar _ _ _ (by omega) HO2.out)
                  have HO3 := Lib.hid (hfar _ _ _ (by omega) HO3.out)
                  try have HBS := Lib.hid (hfar _ _ _ (by omega) HBS.out)
                  have hs9 := (And.intro (hfar _ _ _ (by omega) hHeld.1) (hfar _ _ _ (by omega) hHeld.2))
                  clear hZ hf9 hR9 hbz hfar c0 s0 c1 s1
                  refine hK.out _ _ hs9 (fun hHeld => ?_)
                  clear hs9
                  clear hK K
                  refine tk 13 hHeld ?_
                  refine rd0 ?_
                  have q0 := HO2.out.at_ 0 rfl
                  have q1 := HO2.out.at_ 1 rfl
                  have q2 := HO2.out.at_ 2 rfl
                  have q3 := HO2.out.at_ 3 rfl
                  have q4 := HO2.out.at_ 4 rfl
                  have r0 := HO3.out.at_ 0 rfl
                  have r1 := HO3.out.at_ 1 rfl
                  have o0 := HO4.out.at_ 0 rfl
                  have o1 := HO4.out.at_ 1 rfl
                  clear hHeld
                  go_wp2
                  exact bodyPost_ret (v := .tuple #[.agg #[.slice xa P.length xc, .slice ya B.length yc, .slice za A.length zc, .int .i64 u, .int .i64 n], .agg #[.int .i64 x0, .int .i64 x1], .agg #[.int .i64 x2, .int .i64 x3], .int .i64 m]) (by simp [results, Tryd.results4, go_sem, q0, q1, q2, q3, q4, r0, r1, o0, o1]) rfl ⟨P, B, A, u, n, xa, xc, ya, yc, za, zc, x0, x1, x2, x3, m, rfl, HLEN.out, HRR.out.low (show w0.heap.size ≤ w1.heap.size by omega), HBB.out⟩
                · skip
                  obtain ⟨Z, hZ, hf9, hR9, hbz, hfar⟩ := lab_put HO4.out HRR.out x2 x3
                  have c0 := HO4.out.at_ 0 rfl
                  have c1 := HO4.out.at_ 1 rfl
                  have s0 := HO4.out.soft 0
                  have s1 := HO4.out.soft 1
                  go_simp
                  rw [← hZ]
                  have HO4 := Lib.hid hf9
                  have HRR := Lib.hid hR9
                  have HBB := Lib.hid (HBB.out.trans (hbz.mono (by omega)))
                  have HO2 := Lib.hid (hfar _ _ _ (by omega) HO2.out)
                  have HO3 := Lib.hid (hfar _ _ _ (by omega) HO3.out)
                  try have HBS := Lib.hid (hfar _ _ _ (by omega) HBS.out)
                  have hs9 := (And.intro (hfar _ _ _ (by omega) hHeld.1) (hfar _ _ _ (by omega) hHeld.2))
                  clear hZ hf9 hR9 hbz hfar c0 s0 c1 s1
                  refine hK.out _ _ hs9 (fun hHeld => ?_)
                  clear hs9
                  clear hK K
                  refine rd1 9 (fun K hK => ?_)
                  have k0 := HBS.out.at_ k HKS.out
                  go_simp
                  refine hK.out _ _ hHeld (fun hHeld => ?_)
                  clear k0
                  clear hK K
                  refine tk 13 hHeld ?_
                  refine rd0 ?_
                  have q0 := HO2.out.at_ 0 rfl
                  have q1 := HO2.out.at_ 1 rfl
                  have q2 := HO2.out.at_ 2 rfl
                  have q3 := HO2.out.at_ 3 rfl
                  have q4 := HO2.out.at_ 4 rfl
                  have r0 := HO3.out.at_ 0 rfl
                  have r1 := HO3.out.at_ 1 rfl
                  have o0 := HO4.out.at_ 0 rfl
                  have o1 := HO4.out.at_ 1 rfl
                  clear hHeld
                  go_wp2
                  exact bodyPost_ret (v := .tuple #[.agg #[.slice xa P.length xc, .slice ya B.length yc, .slice za A.length zc, .int .i64 u, .int .i64 n], .agg #[.int .i64 x0, .int .i64 x1], .agg #[.int .i64 x2, .int .i64 x3], .int .i64 m]) (by simp [results, Tryd.results4, go_sem, q0, q1, q2, q3, q4, r0, r1, o0, o1]) rfl ⟨P, B, A, u, n, xa, xc, ya, yc, za, zc, x0, x1, x2, x3, m, rfl, HLEN.out, HRR.out.low (show w0.heap.size ≤ w1.heap.size by omega), HBB.out⟩
            · skip
              obtain ⟨Z, hZ, hf9, hR9, hbz, hfar⟩ := lab_put HO3.out HRR.out x0 x1
              have c0 := HO3.out.at_ 0 rfl
              have c1 := HO3.out.at_ 1 rfl
              have s0 := HO3.out.soft 0
              have s1 := HO3.out.soft 1
              go_simp
              rw [← hZ]
              have HO3 := Lib.hid hf9
              have HRR := Lib.hid hR9
              have HBB := Lib.hid (HBB.out.trans (hbz.mono (by omega)))
              have HO2 := Lib.hid (hfar _ _ _ (by omega) HO2.out)
              have HO4 := Lib.hid (hfar _ _ _ (by omega) HO4.out)
              try have HBS := Lib.hid (hfar _ _ _ (by omega) HBS.out)
              have hs9 := (And.intro (hfar _ _ _ (by omega) hHeld.1) (hfar _ _ _ (by omega) hHeld.2))
              clear hZ hf9 hR9 hbz hfar c0 s0 c1 s1
              refine hK.out _ _ hs9 (fun hHeld => ?_)
              clear hs9
              clear hK K
              refine rd2 5 12 (fun K hK => ?_) (fun K hK => ?_)
              · skip
                obtain ⟨U, bs, hU, hbs, hXU, hbU, hbt⟩ := bs_new hHeld.1
                go_simp
                rw [← hU, ← hbs]
                have HO2 := Lib.hid (HO2.out.call hbU)
                have HO3 := Lib.hid (HO3.out.call hbU)
                have HO4 := Lib.hid (HO4.out.call hbU)
                have HRR := Lib.hid (HRR.out.call hbU)
                have HBB := Lib.hid (HBB.out.trans (hbU.mono HBB.out.size))
                try have HSS := Lib.hid (HSS.out.mono (hbU.mono HSS.out.lt))
                have HBS := Lib.hid hXU
                have hs9 : Blk U t7 25 #[.slice xa P.length xc, .slice ya B.length yc, .slice za A.length zc, .int .i64 u, .int .i64 n] ∧ Blk U bx 48 #[.int .i64 x0, .int .i64 x1, .int .i64 x2, .int .i64 x3, .int .i64 x4, .int .i64 x5] := ⟨hHeld.1.call hbU, hHeld.2.call hbU⟩
                clear hU hbs hXU hbU
                refine hK.out _ _ hs9 (fun hHeld => ?_)
                clear hs9
                clear hK K
                refine tk 8 hHeld ?_
                refine rd2 9 12 (fun K hK => ?_) (fun K hK => ?_)
                · skip
                  have k0 := HBS.out.at_ k HKS.out
                  go_simp
                  refine hK.out _ _ hHeld (fun hHeld => ?_)
                  clear k0
                  clear hK K
                  refine rd1 12 (fun K hK => ?_)
                  obtain ⟨Z, hZ, hf9, hR9, hbz, hfar⟩ := lab_put HO4.out HRR.out x2 x3
                  have c0 := HO4.out.at_ 0 rfl
                  have c1 := HO4.out.at_ 1 rfl
                  have s0 := HO4.out.soft 0
                  have s1 := HO4.out.soft 1
                  go_simp
                  rw [← hZ]
                  have HO4 := Lib.hid hf9
                  have HRR := Lib.hid hR9
                  have HBB := Lib.hid (HBB.out.trans (hbz.mono (by omega)))
                  have HO2 := Lib.hid (hfar _ _ _ (by omega) HO2.out)
                  have HO3 := Lib.hid (hfar _ _ _ (by omega) HO3.out)
                  try have HBS := Lib.hid (hfar _ _ _ (by omega) HBS.out)
                  have hs9 := (And.intro (hfar _ _ _ (by omega) hHeld.1) (hfar _ _ _ (by omega) hHeld.2))
                  clear hZ hf9 hR9 hbz hfar c0 s0 c1 s1
                  refine hK.out _ _ hs9 (fun hHeld => ?_)
                  clear hs9
                  clear hK K
                  refine tk 13 hHeld ?_
                  refine rd0 ?_
                  have q0 := HO2.out.at_ 0 rfl
                  have q1 := HO2.out.at_ 1 rfl
                  have q2 := HO2.out.at_ 2 rfl
                  have q3 := HO2.out.at_ 3 rfl
                  have q4 := HO2.out.at_ 4 rfl
                  have r0 := HO3.out.at_ 0 rfl
                  have r1 := HO3.out.at_ 1 rfl
                  have o0 := HO4.out.at_ 0 rfl
                  have o1 := HO4.out.at_ 1 rfl
                  clear hHeld
                  go_wp2
                  exact bodyPost_ret (v := .tuple #[.agg #[.slice xa P.length xc, .slice ya B.length yc, .slice za A.length zc, .int .i64 u, .int .i64 n], .agg #[.int .i64 x0, .int .i64 x1], .agg #[.int .i64 x2, .int .i64 x3], .int .i64 m]) (by simp [results, Tryd.results4, go_sem, q0, q1, q2, q3, q4, r0, r1, o0, o1]) rfl ⟨P, B, A, u, n, xa, xc, ya, yc, za, zc, x0, x1, x2, x3, m, rfl, HLEN.out, HRR.out.low (show w0.heap.size ≤ w1.heap.size by omega), HBB.out⟩
                · skip
                  obtain ⟨Z, hZ, hf9, hR9, hbz, hfar⟩ := lab_put HO4.out HRR.out x2 x3
                  have c0 := HO4.out.at_ 0 rfl
                  have c1 := HO4.out.at_ 1 rfl
                  have s0 := HO4.out.soft 0
                  have s1 := HO4.out.soft 1
                  go_simp
                  rw [← hZ]
                  have HO4 := Lib.hid hf9
                  have HRR := Lib.hid hR9
                  have HBB := Lib.hid (HBB.out.trans (hbz.mono (by omega)))
                  have HO2 := Lib.hid (hfar _ _ _ (by omega) HO2.out)
                  have HO3 := Lib.hid (hfar _ _ _ (by omega) HO3.out)
                  try have HBS := Lib.hid (hfar _ _ _ (by omega) HBS.out)
                  have hs9 := (And.intro (hfar _ _ _ (by omega) hHeld.1) (hfar _ _ _ (by omega) hHeld.2))
                  clear hZ hf9 hR9 hbz hfar c0 s0 c1 s1
                  refine hK.out _ _ hs9 (fun hHeld => ?_)
                  clear hs9
                  clear hK K
                  refine rd1 9 (fun K hK => ?_)
                  have k0 := HBS.out.at_ k HKS.out
                  go_simp
                  refine hK.out _ _ hHeld (fun hHeld => ?_)
                  clear k0
                  clear hK K
                  refine tk 13 hHeld ?_
                  refine rd0 ?_
                  have q0 := HO2.out.at_ 0 rfl
                  have q1 := HO2.out.at_ 1 rfl
                  have q2 := HO2.out.at_ 2 rfl
                  have q3 := HO2.out.at_ 3 rfl
                  have q4 := HO2.out.at_ 4 rfl
                  have r0 := HO3.out.at_ 0 rfl
                  have r1 := HO3.out.at_ 1 rfl
                  have o0 := HO4.out.at_ 0 rfl
                  have o1 := HO4.out.at_ 1 rfl
                  clear hHeld
                  go_wp2
                  exact bodyPost_ret (v := .tuple #[.agg #[.slice xa P.length xc, .slice ya B.length yc, .slice za A.length zc, .int .i64 u, .int .i64 n], .agg #[.int .i64 x0, .int .i64 x1], .agg #[.int .i64 x2, .int .i64 x3], .int .i64 m]) (by simp [results, Tryd.results4, go_sem, q0, q1, q2, q3, q4, r0, r1, o0, o1]) rfl ⟨P, B, A, u, n, xa, xc, ya, yc, za, zc, x0, x1, x2, x3, m, rfl, HLEN.out, HRR.out.low (show w0.heap.size ≤ w1.heap.size by omega), HBB.out⟩
              · skip
                obtain ⟨Z, hZ, hf9, hR9, hbz, hfar⟩ := lab_put HO4.out HRR.out x2 x3
                have c0 := HO4.out.at_ 0 rfl
                have c1 := HO4.out.at_ 1 rfl
                have s0 := HO4.out.soft 0
                have s1 := HO4.out.soft 1
                go_simp
                rw [← hZ]
                have HO4 := Lib.hid hf9
                have HRR := Lib.hid hR9
                have HBB := Lib.hid (HBB.out.trans (hbz.mono (by omega)))
                have HO2 := Lib.hid (hfar _ _ _ (by omega) HO2.out)
                have HO3 := Lib.hid (hfar _ _ _ (by omega) HO3.out)
                try have HBS := Lib.hid (hfar _ _ _ (by omega) HBS.out)
                have hs9 := (And.intro (hfar _ _ _ (by omega) hHeld.1) (hfar _ _ _ (by omega) hHeld.2))
                clear hZ hf9 hR9 hbz hfar c0 s0 c1 s1
                refine hK.out _ _ hs9 (fun hHeld => ?_)
                clear hs9
                clear hK K
                refine rd1 5 (fun K hK => ?_)
                obtain ⟨U, bs, hU, hbs, hXU, hbU, hbt⟩ := bs_new hHeld.1
                go_simp
                rw [← hU, ← hbs]
                have HO2 := Lib.hid (HO2.out.call hbU)
                have HO3 := Lib.hid (HO3.out.call hbU)
                have HO4 := Lib.hid (HO4.out.call hbU)
                have HRR := Lib.hid (HRR.out.call hbU)
                have HBB := Lib.hid (HBB.out.trans (hbU.mono HBB.out.size))
                try have HSS := Lib.hid (HSS.out.mono (hbU.mono HSS.out.lt))
                have HBS := Lib.hid hXU
                have hs9 : Blk U t7 25 #[.slice xa P.length xc, .slice ya B.length yc, .slice za A.length zc, .int .i64 u, .int .i64 n] ∧ Blk U bx 48 #[.int .i64 x0, .int .i64 x1, .int .i64 x2, .int .i64 x3, .int .i64 x4, .int .i64 x5] := ⟨hHeld.1.call hbU, hHeld.2.call hbU⟩
                clear hU hbs hXU hbU
                refine hK.out _ _ hs9 (fun hHeld => ?_)
                clear hs9
                clear hK K
                refine tk 8 hHeld ?_
                refine rd1 9 (fun K hK => ?_)
                have k0 := HBS.out.at_ k HKS.out
                go_simp
                refine hK.out _ _ hHeld (fun hHeld => ?_)
                clear k0
                clear hK K
                refine tk 13 hHeld ?_
                refine rd0 ?_
                have q0 := HO2.out.at_ 0 rfl
                have q1 := HO2.out.at_ 1 rfl
                have q2 := HO2.out.at_ 2 rfl
                have q3 := HO2.out.at_ 3 rfl
                have q4 := HO2.out.at_ 4 rfl
                have r0 := HO3.out.at_ 0 rfl
                have r1 := HO3.out.at_ 1 rfl
                have o0 := HO4.out.at_ 0 rfl
                have o1 := HO4.out.at_ 1 rfl
                clear hHeld
                go_wp2
                exact bodyPost_ret (v := .tuple #[.agg #[.slice xa P.length xc, .slice ya B.length yc, .slice za A.length zc, .int .i64 u, .int .i64 n], .agg #[.int .i64 x0, .int .i64 x1], .agg #[.int .i64 x2, .int .i64 x3], .int .i64 m]) (by simp [results, Tryd.results4, go_sem, q0, q1, q2, q3, q4, r0, r1, o0, o1]) rfl ⟨P, B, A, u, n, xa, xc, ya, yc, za, zc, x0, x1, x2, x3, m, rfl, HLEN.out, HRR.out.low (show w0.heap.size ≤ w1.heap.size by omega), HBB.out⟩
    | true =>
      go_wp2_with fail
      refine (label_any g b len cap _ HSS.out).mono ?_
      intro e w10 h
      obtain ⟨lm, sm, rfl, hs, hb⟩ := drawnL_elim h
      have HO2 := Lib.hid (Blk.but HO2.out hb (by omega))
      have HO3 := Lib.hid (Blk.but HO3.out hb (by omega))
      have HO4 := Lib.hid (Blk.but HO4.out hb (by omega))
      have HT := Lib.hid (Blk.but HT.out hb (by omega))
      have HX := Lib.hid (Blk.but HX.out hb (by omega))
      have HRR := Lib.hid (r3_but HRR.out (show g < w1.heap.size from hgz) hb)
      have HBB := Lib.hid (HBB.out.trans (hb.below (B := w0.heap.size) HBB.out.size (by omega)))
      have HSS := Lib.hid hs
      have r2 := HX.out.at_ 2 rfl
      have r3 := HX.out.at_ 3 rfl
      have v2 := HX.out.soft 2
      have v3 := HX.out.soft 3
      obtain ⟨Z, hZ, hXZ, hRZ, hbz, hfar⟩ := let_put HX.out HR4.out (show g < w1.heap.size from hgz) (HBV.out.trans hb) hbx lm sm
      have hXZ' := Lib.hid hXZ
      have hRZ' := Lib.hid hRZ
      have hbz' := Lib.hid hbz
      have hfar' := Lib.hid hfar
      clear h hs hb hXZ hRZ hbz hfar HR4 HBV
      go_upto_region 6 with fail
      rw [← hZ]
      clear hZ r2 r3 v2 v3
      have HO2 := Lib.hid (hfar'.out _ _ _ (by omega) HO2.out)
      have HO3 := Lib.hid (hfar'.out _ _ _ (by omega) HO3.out)
      have HO4 := Lib.hid (hfar'.out _ _ _ (by omega) HO4.out)
      have HT := Lib.hid (hfar'.out _ _ _ (by omega) HT.out)
      have HSS := Lib.hid (HSS.out.mono (hbz'.out.mono (by omega)))
      have HBB := Lib.hid (HBB.out.trans (hbz'.out.mono (by omega)))
      have HX := hXZ'
      have HRR := hRZ'
      clear hXZ' hRZ' hbz' hfar'
      go_wp2_with fail
      refine (one_any g b len cap _ _ HSS.out (by omega)).mono ?_
      rintro e wA ⟨tt, rfl, hs, hb⟩
      have HO2 := Lib.hid (Blk.but HO2.out hb (by omega))
      have HO3 := Lib.hid (Blk.but HO3.out hb (by omega))
      have HO4 := Lib.hid (Blk.but HO4.out hb (by omega))
      have HT := Lib.hid (Blk.but HT.out hb (by omega))
      have HX := Lib.hid (Blk.but HX.out hb (by omega))
      have HRR := Lib.hid (r3_but HRR.out (show g < w1.heap.size from hgz) hb)
      have HBB := Lib.hid (HBB.out.trans (hb.below (B := w0.heap.size) HBB.out.size (by omega)))
      have HSS := Lib.hid hs
      clear hs hb
      cases tt with
      | false =>
        go_upto_region 8 with fail
        refine wp_region_held_drew (S := (fun V => Blk V t7 25 #[.slice xa P.length xc, .slice ya B.length yc, .slice za A.length zc, .int .i64 u, .int .i64 n] ∧ Blk V bx 48 #[.int .i64 x0, .int .i64 x1, .int .i64 lm, .int .i64 sm, .int .i64 x4, .int .i64 x5])) (by kernel_rfl) (⟨HT.out.call (Below.refl wA.heap.size wA).drew, HX.out.call (Below.refl wA.heap.size wA).drew⟩) (fun hHeld => ?_)
        have HO2 := Lib.hid (HO2.out.call (Below.refl wA.heap.size wA).drew)
        have HO3 := Lib.hid (HO3.out.call (Below.refl wA.heap.size wA).drew)
        have HO4 := Lib.hid (HO4.out.call (Below.refl wA.heap.size wA).drew)
        have HRR := Lib.hid (HRR.out.call (Below.refl wA.heap.size wA).drew)
        have HSS := Lib.hid (HSS.out.mono (Below.refl _ _).drew)
        have HBB := Lib.hid (HBB.out.trans ((Below.refl w0.heap.size wA).drew))
        obtain ⟨wd, hwd⟩ : ∃ x, x = wA.drew := ⟨_, rfl⟩
        rw [← hwd] at HO2 HO3 HO4 HRR HSS HBB hHeld ⊢
        clear hwd HT HX
        refine tk 0 hHeld ?_ (hy := fun w hSw => by (try dsimp only at hSw); have k0 := hSw.1.at_ 0 rfl; have k1 := hSw.1.at_ 1 rfl; have k2 := hSw.1.at_ 2 rfl; have k3 := hSw.1.at_ 3 rfl; have k4 := hSw.1.at_ 4 rfl; clear hSw; go_simp; try with_reducible rfl)
        refine tk 1 hHeld ?_
        refine tk 2 hHeld ?_ (hy := fun w hSw => by (try dsimp only at hSw); have k0 := hSw.2.at_ 0 rfl; have k1 := hSw.2.at_ 1 rfl; clear hSw; go_simp; try with_reducible rfl)
        refine tk 3 hHeld ?_
        refine tk 4 hHeld ?_ (hy := fun w hSw => by (try dsimp only at hSw); have k0 := hSw.2.at_ 2 rfl; have k1 := hSw.2.at_ 3 rfl; clear hSw; go_simp; try with_reducible rfl)
        refine tk 5 hHeld ?_
        refine rd1 6 (fun K hK => ?_)
        go_simp
        go_at_call 20
        refine (n_any g b len cap _ _ HSS.out (by omega)).mono ?_
        rintro e v4 ⟨z, rfl, v0, v1, hs, hb⟩
        have HO2 := Lib.hid (Blk.but HO2.out hb (by omega))
        have HO3 := Lib.hid (Blk.but HO3.out hb (by omega))
        have HO4 := Lib.hid (Blk.but HO4.out hb (by omega))
        have HRR := Lib.hid (r3_but HRR.out (show g < w1.heap.size from hgz) hb)
        have HBB := Lib.hid (HBB.out.trans (hb.below (B := w0.heap.size) HBB.out.size (by omega)))
        have HSS := Lib.hid hs
        have hs9 : Blk v4 t7 25 #[.slice xa P.length xc, .slice ya B.length yc, .slice za A.length zc, .int .i64 u, .int .i64 n] ∧ Blk v4 bx 48 #[.int .i64 x0, .int .i64 x1, .int .i64 lm, .int .i64 sm, .int .i64 x4, .int .i64 x5] := ⟨Blk.but hHeld.1 hb (by omega), Blk.but hHeld.2 hb (by omega)⟩
        clear hs hb v0 v1
        refine hK.out _ _ hs9 (fun hHeld => ?_)
        clear hs9
        clear hK K
        refine rd1 7 (fun K hK => ?_)
        obtain ⟨Z, hZ, hf9, hR9, hbz, hfar⟩ := out_put (u := u) (n := n) HO2.out HRR.out
        have c0 := HO2.out.at_ 0 rfl
        have c1 := HO2.out.at_ 1 rfl
        have c2 := HO2.out.at_ 2 rfl
        have c3 := HO2.out.at_ 3 rfl
        have c4 := HO2.out.at_ 4 rfl
        have s0 := HO2.out.soft 0
        have s1 := HO2.out.soft 1
        have s2 := HO2.out.soft 2
        have s3 := HO2.out.soft 3
        have s4 := HO2.out.soft 4
        go_simp
        rw [← hZ]
        have HO2 := Lib.hid hf9
        have HRR := Lib.hid hR9
        have HBB := Lib.hid (HBB.out.trans (hbz.mono (by omega)))
        have HO3 := Lib.hid (hfar _ _ _ (by omega) HO3.out)
        have HO4 := Lib.hid (hfar _ _ _ (by omega) HO4.out)
        try have HBS := Lib.hid (hfar _ _ _ (by omega) HBS.out)
        have hs9 := (And.intro (hfar _ _ _ (by omega) hHeld.1) (hfar _ _ _ (by omega) hHeld.2))
        clear hZ hf9 hR9 hbz hfar c0 s0 c1 s1 c2 s2 c3 s3 c4 s4
        refine hK.out _ _ hs9 (fun hHeld => ?_)
        clear hs9
        clear hK K
        refine rd1 8 (fun K hK => ?_)
        obtain ⟨Z, hZ, hf9, hR9, hbz, hfar⟩ := lab_put HO3.out HRR.out x0 x1
        have c0 := HO3.out.at_ 0 rfl
        have c1 := HO3.out.at_ 1 rfl
        have s0 := HO3.out.soft 0
        have s1 := HO3.out.soft 1
        go_simp
        rw [← hZ]
        have HO3 := Lib.hid hf9
        have HRR := Lib.hid hR9
        have HBB := Lib.hid (HBB.out.trans (hbz.mono (by omega)))
        have HO2 := Lib.hid (hfar _ _ _ (by omega) HO2.out)
        have HO4 := Lib.hid (hfar _ _ _ (by omega) HO4.out)
        try have HBS := Lib.hid (hfar _ _ _ (by omega) HBS.out)
        have hs9 := (And.intro (hfar _ _ _ (by omega) hHeld.1) (hfar _ _ _ (by omega) hHeld.2))
        clear hZ hf9 hR9 hbz hfar c0 s0 c1 s1
        refine hK.out _ _ hs9 (fun hHeld => ?_)
        clear hs9
        clear hK K
        refine rd1 9 (fun K hK => ?_)
        obtain ⟨Z, hZ, hf9, hR9, hbz, hfar⟩ := lab_put HO4.out HRR.out lm sm
        have c0 := HO4.out.at_ 0 rfl
        have c1 := HO4.out.at_ 1 rfl
        have s0 := HO4.out.soft 0
        have s1 := HO4.out.soft 1
        go_simp
        rw [← hZ]
        have HO4 := Lib.hid hf9
        have HRR := Lib.hid hR9
        have HBB := Lib.hid (HBB.out.trans (hbz.mono (by omega)))
        have HO2 := Lib.hid (hfar _ _ _ (by omega) HO2.out)
        have HO3 := Lib.hid (hfar _ _ _ (by omega) HO3.out)
        try have HBS := Lib.hid (hfar _ _ _ (by omega) HBS.out)
        have hs9 := (And.intro (hfar _ _ _ (by omega) hHeld.1) (hfar _ _ _ (by omega) hHeld.2))
        clear hZ hf9 hR9 hbz hfar c0 s0 c1 s1
        refine hK.out _ _ hs9 (fun hHeld => ?_)
        clear hs9
        clear hK K
        refine tk 10 hHeld ?_
        refine rd0 ?_
        have q0 := HO2.out.at_ 0 rfl
        have q1 := HO2.out.at_ 1 rfl
        have q2 := HO2.out.at_ 2 rfl
        have q3 := HO2.out.at_ 3 rfl
        have q4 := HO2.out.at_ 4 rfl
        have r0 := HO3.out.at_ 0 rfl
        have r1 := HO3.out.at_ 1 rfl
        have o0 := HO4.out.at_ 0 rfl
        have o1 := HO4.out.at_ 1 rfl
        clear hHeld
        go_wp2
        exact bodyPost_ret (v := .tuple #[.agg #[.slice xa P.length xc, .slice ya B.length yc, .slice za A.length zc, .int .i64 u, .int .i64 n], .agg #[.int .i64 x0, .int .i64 x1], .agg #[.int .i64 lm, .int .i64 sm], .int .i64 z]) (by simp [results, Tryd.results4, go_sem, q0, q1, q2, q3, q4, r0, r1, o0, o1]) rfl ⟨P, B, A, u, n, xa, xc, ya, yc, za, zc, x0, x1, lm, sm, z, rfl, HLEN.out, HRR.out.low (show w0.heap.size ≤ w1.heap.size by omega), HBB.out⟩
      | true =>
        go_upto_region 7 with fail
        refine wp_region_held_drew (S := (fun V => Blk V t7 25 #[.slice xa P.length xc, .slice ya B.length yc, .slice za A.length zc, .int .i64 u, .int .i64 n] ∧ Blk V bx 48 #[.int .i64 x0, .int .i64 x1, .int .i64 lm, .int .i64 sm, .int .i64 x4, .int .i64 x5])) (by kernel_rfl) (⟨HT.out.call (Below.refl wA.heap.size wA).drew, HX.out.call (Below.refl wA.heap.size wA).drew⟩) (fun hHeld => ?_)
        have HO2 := Lib.hid (HO2.out.call (Below.refl wA.heap.size wA).drew)
        have HO3 := Lib.hid (HO3.out.call (Below.refl wA.heap.size wA).drew)
        have HO4 := Lib.hid (HO4.out.call (Below.refl wA.heap.size wA).drew)
        have HRR := Lib.hid (HRR.out.call (Below.refl wA.heap.size wA).drew)
        have HSS := Lib.hid (HSS.out.mono (Below.refl _ _).drew)
        have HBB := Lib.hid (HBB.out.trans ((Below.refl w0.heap.size wA).drew))
        obtain ⟨wd, hwd⟩ : ∃ x, x = wA.drew := ⟨_, rfl⟩
        rw [← hwd] at HO2 HO3 HO4 HRR HSS HBB hHeld ⊢
        clear hwd HT HX
        refine tk 0 hHeld ?_ (hy := fun w hSw => by (try dsimp only at hSw); have k0 := hSw.1.at_ 0 rfl; have k1 := hSw.1.at_ 1 rfl; have k2 := hSw.1.at_ 2 rfl; have k3 := hSw.1.at_ 3 rfl; have k4 := hSw.1.at_ 4 rfl; clear hSw; go_simp; try with_reducible rfl)
        refine tk 1 hHeld ?_
        refine tk 2 hHeld ?_ (hy := fun w hSw => by (try dsimp only at hSw); have k0 := hSw.2.at_ 0 rfl; have k1 := hSw.2.at_ 1 rfl; clear hSw; go_simp; try with_reducible rfl)
        refine tk 3 hHeld ?_
        refine tk 4 hHeld ?_ (hy := fun w hSw => by (try dsimp only at hSw); have k0 := hSw.2.at_ 2 rfl; have k1 := hSw.2.at_ 3 rfl; clear hSw; go_simp; try with_reducible rfl)
        refine tk 6 hHeld ?_
        refine rd2 5 7 (fun K hK => ?_) (fun K hK => ?_)
        · skip
          obtain ⟨U, bs, hU, hbs, hXU, hbU, hbt⟩ := bs_new hHeld.1
          go_simp
          rw [← hU, ← hbs]
          have HO2 := Lib.hid (HO2.out.call hbU)
          have HO3 := Lib.hid (HO3.out.call hbU)
          have HO4 := Lib.hid (HO4.out.call hbU)
          have HRR := Lib.hid (HRR.out.call hbU)
          have HBB := Lib.hid (HBB.out.trans (hbU.mono HBB.out.size))
          try have HSS := Lib.hid (HSS.out.mono (hbU.mono HSS.out.lt))
          have HBS := Lib.hid hXU
          have hs9 : Blk U t7 25 #[.slice xa P.length xc, .slice ya B.length yc, .slice za A.length zc, .int .i64 u, .int .i64 n] ∧ Blk U bx 48 #[.int .i64 x0, .int .i64 x1, .int .i64 lm, .int .i64 sm, .int .i64 x4, .int .i64 x5] := ⟨hHeld.1.call hbU, hHeld.2.call hbU⟩
          clear hU hbs hXU hbU
          refine hK.out _ _ hs9 (fun hHeld => ?_)
          clear hs9
          clear hK K
          refine rd1 7 (fun K hK => ?_)
          go_simp
          go_at_call 20
          refine (n_any g b len cap _ _ HSS.out (by omega)).mono ?_
          rintro e v4 ⟨z, rfl, v0, v1, hs, hb⟩
          have HO2 := Lib.hid (Blk.but HO2.out hb (by omega))
          have HO3 := Lib.hid (Blk.but HO3.out hb (by omega))
          have HO4 := Lib.hid (Blk.but HO4.out hb (by omega))
          have HRR := Lib.hid (r3_but HRR.out (show g < w1.heap.size from hgz) hb)
          have HBB := Lib.hid (HBB.out.trans (hb.below (B := w0.heap.size) HBB.out.size (by omega)))
          obtain ⟨k, m, rfl, hk3, hks⟩ : ∃ (k : Nat) (m : Int), z = (k : Int) ∧ k < 3 ∧ (#[.int .i64 (-1), .int .i64 1000000, .int .i64 1000001] : Array Value)[k]? = some (.int .i64 m) := by
            have : z = 0 ∨ z = 1 ∨ z = 2 := by omega
            rcases this with rfl | rfl | rfl
            · exact ⟨0, _, rfl, by decide, rfl⟩
            · exact ⟨1, _, rfl, by decide, rfl⟩
            · exact ⟨2, _, rfl, by decide, rfl⟩
          have HKS := Lib.hid hks
          have hi0 : (0 : Int) ≤ (k : Int) := Int.natCast_nonneg _
          have hi1 : (k : Int) < 3 := by omega
          try have HBS := Lib.hid (Blk.but HBS.out hb (by omega))
          clear hks
          have HSS := Lib.hid hs
          have hs9 : Blk v4 t7 25 #[.slice xa P.length xc, .slice ya B.length yc, .slice za A.length zc, .int .i64 u, .int .i64 n] ∧ Blk v4 bx 48 #[.int .i64 x0, .int .i64 x1, .int .i64 lm, .int .i64 sm, .int .i64 x4, .int .i64 x5] := ⟨Blk.but hHeld.1 hb (by omega), Blk.but hHeld.2 hb (by omega)⟩
          clear hs hb v0 v1
          refine hK.out _ _ hs9 (fun hHeld => ?_)
          clear hs9
          clear hK K
          refine tk 8 hHeld ?_
          refine rd2 9 10 (fun K hK => ?_) (fun K hK => ?_)
          · skip
            have k0 := HBS.out.at_ k HKS.out
            go_simp
            refine hK.out _ _ hHeld (fun hHeld => ?_)
            clear k0
            clear hK K
            refine rd1 10 (fun K hK => ?_)
            obtain ⟨Z, hZ, hf9, hR9, hbz, hfar⟩ := out_put (u := u) (n := n) HO2.out HRR.out
            have c0 := HO2.out.at_ 0 rfl
            have c1 := HO2.out.at_ 1 rfl
            have c2 := HO2.out.at_ 2 rfl
            have c3 := HO2.out.at_ 3 rfl
            have c4 := HO2.out.at_ 4 rfl
            have s0 := HO2.out.soft 0
            have s1 := HO2.out.soft 1
            have s2 := HO2.out.soft 2
            have s3 := HO2.out.soft 3
            have s4 := HO2.out.soft 4
            go_simp
            rw [← hZ]
            have HO2 := Lib.hid hf9
            have HRR := Lib.hid hR9
            have HBB := Lib.hid (HBB.out.trans (hbz.mono (by omega)))
            have HO3 := Lib.hid (hfar _ _ _ (by omega) HO3.out)
            have HO4 := Lib.hid (hfar _ _ _ (by omega) HO4.out)
            try have HBS := Lib.hid (hfar _ _ _ (by omega) HBS.out)
            have hs9 := (And.intro (hfar _ _ _ (by omega) hHeld.1) (hfar _ _ _ (by omega) hHeld.2))
            clear hZ hf9 hR9 hbz hfar c0 s0 c1 s1 c2 s2 c3 s3 c4 s4
            refine hK.out _ _ hs9 (fun hHeld => ?_)
            clear hs9
            clear hK K
            refine rd1 11 (fun K hK => ?_)
            obtain ⟨Z, hZ, hf9, hR9, hbz, hfar⟩ := lab_put HO3.out HRR.out x0 x1
            have c0 := HO3.out.at_ 0 rfl
            have c1 := HO3.out.at_ 1 rfl
            have s0 := HO3.out.soft 0
            have s1 := HO3.out.soft 1
            go_simp
            rw [← hZ]
            have HO3 := Lib.hid hf9
            have HRR := Lib.hid hR9
            have HBB := Lib.hid (HBB.out.trans (hbz.mono (by omega)))
            have HO2 := Lib.hid (hfar _ _ _ (by omega) HO2.out)
            have HO4 := Lib.hid (hfar _ _ _ (by omega) HO4.out)
            try have HBS := Lib.hid (hfar _ _ _ (by omega) HBS.out)
            have hs9 := (And.intro (hfar _ _ _ (by omega) hHeld.1) (hfar _ _ _ (by omega) hHeld.2))
            clear hZ hf9 hR9 hbz hfar c0 s0 c1 s1
            refine hK.out _ _ hs9 (fun hHeld => ?_)
            clear hs9
            clear hK K
            refine rd1 12 (fun K hK => ?_)
            obtain ⟨Z, hZ, hf9, hR9, hbz, hfar⟩ := lab_put HO4.out HRR.out lm sm
            have c0 := HO4.out.at_ 0 rfl
            have c1 := HO4.out.at_ 1 rfl
            have s0 := HO4.out.soft 0
            have s1 := HO4.out.soft 1
            go_simp
            rw [← hZ]
            have HO4 := Lib.hid hf9
            have HRR := Lib.hid hR9
            have HBB := Lib.hid (HBB.out.trans (hbz.mono (by omega)))
            have HO2 := Lib.hid (hfar _ _ _ (by omega) HO2.out)
            have HO3 := Lib.hid (hfar _ _ _ (by omega) HO3.out)
            try have HBS := Lib.hid (hfar _ _ _ (by omega) HBS.out)
            have hs9 := (And.intro (hfar _ _ _ (by omega) hHeld.1) (hfar _ _ _ (by omega) hHeld.2))
            clear hZ hf9 hR9 hbz hfar c0 s0 c1 s1
            refine hK.out _ _ hs9 (fun hHeld => ?_)
            clear hs9
            clear hK K
            refine tk 13 hHeld ?_
            refine rd0 ?_
            have q0 := HO2.out.at_ 0 rfl
            have q1 := HO2.out.at_ 1 rfl
            have q2 := HO2.out.at_ 2 rfl
            have q3 := HO2.out.at_ 3 rfl
            have q4 := HO2.out.at_ 4 rfl
            have r0 := HO3.out.at_ 0 rfl
            have r1 := HO3.out.at_ 1 rfl
            have o0 := HO4.out.at_ 0 rfl
            have o1 := HO4.out.at_ 1 rfl
            clear hHeld
            go_wp2
            exact bodyPost_ret (v := .tuple #[.agg #[.slice xa P.length xc, .slice ya B.length yc, .slice za A.length zc, .int .i64 u, .int .i64 n], .agg #[.int .i64 x0, .int .i64 x1], .agg #[.int .i64 lm, .int .i64 sm], .int .i64 m]) (by simp [results, Tryd.results4, go_sem, q0, q1, q2, q3, q4, r0, r1, o0, o1]) rfl ⟨P, B, A, u, n, xa, xc, ya, yc, za, zc, x0, x1, lm, sm, m, rfl, HLEN.out, HRR.out.low (show w0.heap.size ≤ w1.heap.size by omega), HBB.out⟩
          · skip
            obtain ⟨Z, hZ, hf9, hR9, hbz, hfar⟩ := out_put (u := u) (n := n) HO2.out HRR.out
            have c0 := HO2.out.at_ 0 rfl
            have c1 := HO2.out.at_ 1 rfl
            have c2 := HO2.out.at_ 2 rfl
            have c3 := HO2.out.at_ 3 rfl
            have c4 := HO2.out.at_ 4 rfl
            have s0 := HO2.out.soft 0
            have s1 := HO2.out.soft 1
            have s2 := HO2.out.soft 2
            have s3 := HO2.out.soft 3
            have s4 := HO2.out.soft 4
            go_simp
            rw [← hZ]
            have HO2 := Lib.hid hf9
            have HRR := Lib.hid hR9
            have HBB := Lib.hid (HBB.out.trans (hbz.mono (by omega)))
            have HO3 := Lib.hid (hfar _ _ _ (by omega) HO3.out)
            have HO4 := Lib.hid (hfar _ _ _ (by omega) HO4.out)
            try have HBS := Lib.hid (hfar _ _ _ (by omega) HBS.out)
            have hs9 := (And.intro (hfar _ _ _ (by omega) hHeld.1) (hfar _ _ _ (by omega) hHeld.2))
            clear hZ hf9 hR9 hbz hfar c0 s0 c1 s1 c2 s2 c3 s3 c4 s4
            refine hK.out _ _ hs9 (fun hHeld => ?_)
            clear hs9
            clear hK K
            refine rd2 9 11 (fun K hK => ?_) (fun K hK => ?_)
            · skip
              have k0 := HBS.out.at_ k HKS.out
              go_simp
              refine hK.out _ _ hHeld (fun hHeld => ?_)
              clear k0
              clear hK K
              refine rd1 11 (fun K hK => ?_)
              obtain ⟨Z, hZ, hf9, hR9, hbz, hfar⟩ := lab_put HO3.out HRR.out x0 x1
              have c0 := HO3.out.at_ 0 rfl
              have c1 := HO3.out.at_ 1 rfl
              have s0 := HO3.out.soft 0
              have s1 := HO3.out.soft 1
              go_simp
              rw [← hZ]
              have HO3 := Lib.hid hf9
              have HRR := Lib.hid hR9
              have HBB := Lib.hid (HBB.out.trans (hbz.mono (by omega)))
              have HO2 := Lib.hid (hfar _ _ _ (by omega) HO2.out)
              have HO4 := Lib.hid (hfar _ _ _ (by omega) HO4.out)
              try have HBS := Lib.hid (hfar _ _ _ (by omega) HBS.out)
              have hs9 := (And.intro (hfar _ _ _ (by omega) hHeld.1) (hfar _ _ _ (by omega) hHeld.2))
              clear hZ hf9 hR9 hbz hfar c0 s0 c1 s1
              refine hK.out _ _ hs9 (fun hHeld => ?_)
              clear hs9
              clear hK K
              refine rd1 12 (fun K hK => ?_)
              obtain ⟨Z, hZ, hf9, hR9, hbz, hfar⟩ := lab_put HO4.out HRR.out lm sm
              have c0 := HO4.out.at_ 0 rfl
              have c1 := HO4.out.at_ 1 rfl
              have s0 := HO4.out.soft 0
              have s1 := HO4.out.soft 1
              go_simp
              rw [← hZ]
              have HO4 := Lib.hid hf9
              have HRR := Lib.hid hR9
              have HBB := Lib.hid (HBB.out.trans (hbz.mono (by omega)))
              have HO2 := Lib.hid (hfar _ _ _ (by omega) HO2.out)
              have HO3 := Lib.hid (hfar _ _ _ (by omega) HO3.out)
              try have HBS := Lib.hid (hfar _ _ _ (by omega) HBS.out)
              have hs9 := (And.intro (hfar _ _ _ (by omega) hHeld.1) (hfar _ _ _ (by omega) hHeld.2))
              clear hZ hf9 hR9 hbz hfar c0 s0 c1 s1
              refine hK.out _ _ hs9 (fun hHeld => ?_)
              clear hs9
              clear hK K
              refine tk 13 hHeld ?_
              refine rd0 ?_
              have q0 := HO2.out.at_ 0 rfl
              have q1 := HO2.out.at_ 1 rfl
              have q2 := HO2.out.at_ 2 rfl
              have q3 := HO2.out.at_ 3 rfl
              have q4 := HO2.out.at_ 4 rfl
              have r0 := HO3.out.at_ 0 rfl
              have r1 := HO3.out.at_ 1 rfl
              have o0 := HO4.out.at_ 0 rfl
              have o1 := HO4.out.at_ 1 rfl
              clear hHeld
              go_wp2
              exact bodyPost_ret (v := .tuple #[.agg #[.slice xa P.length xc, .slice ya B.length yc, .slice za A.length zc, .int .i64 u, .int .i64 n], .agg #[.int .i64 x0, .int .i64 x1], .agg #[.int .i64 lm, .int .i64 sm], .int .i64 m]) (by simp [results, Tryd.results4, go_sem, q0, q1, q2, q3, q4, r0, r1, o0, o1]) rfl ⟨P, B, A, u, n, xa, xc, ya, yc, za, zc, x0, x1, lm, sm, m, rfl, HLEN.out, HRR.out.low (show w0.heap.size ≤ w1.heap.size by omega), HBB.out⟩
            · skip
              obtain ⟨Z, hZ, hf9, hR9, hbz, hfar⟩ := lab_put HO3.out HRR.out x0 x1
              have c0 := HO3.out.at_ 0 rfl
              have c1 := HO3.out.at_ 1 rfl
              have s0 := HO3.out.soft 0
              have s1 := HO3.out.soft 1
              go_simp
              rw [← hZ]
              have HO3 := Lib.hid hf9
              have HRR := Lib.hid hR9
              have HBB := Lib.hid (HBB.out.trans (hbz.mono (by omega)))
              have HO2 := Lib.hid (hfar _ _ _ (by omega) HO2.out)
              have HO4 := Lib.hid (hfar _ _ _ (by omega) HO4.out)
              try have HBS := Lib.hid (hfar _ _ _ (by omega) HBS.out)
              have hs9 := (And.intro (hfar _ _ _ (by omega) hHeld.1) (hfar _ _ _ (by omega) hHeld.2))
              clear hZ hf9 hR9 hbz hfar c0 s0 c1 s1
              refine hK.out _ _ hs9 (fun hHeld => ?_)
              clear hs9
              clear hK K
              refine rd2 9 12 (fun K hK => ?_) (fun K hK => ?_)
              · skip
                have k0 := HBS.out.at_ k HKS.out
                go_simp
                refine hK.out _ _ hHeld (fun hHeld => ?_)
                clear k0
                clear hK K
                refine rd1 12 (fun K hK => ?_)
                obtain ⟨Z, hZ, hf9, hR9, hbz, hfar⟩ := lab_put HO4.out HRR.out lm sm
                have c0 := HO4.out.at_ 0 rfl
                have c1 := HO4.out.at_ 1 rfl
                have s0 := HO4.out.soft 0
                have s1 := HO4.out.soft 1
                go_simp
                rw [← hZ]
                have HO4 := Lib.hid hf9
                have HRR := Lib.hid hR9
                have HBB := Lib.hid (HBB.out.trans (hbz.mono (by omega)))
                have HO2 := Lib.hid (hfar _ _ _ (by omega) HO2.out)
                have HO3 := Lib.hid (hfar _ _ _ (by omega) HO3.out)
                try have HBS := Lib.hid (hfar _ _ _ (by omega) HBS.out)
                have hs9 := (And.intro (hfar _ _ _ (by omega) hHeld.1) (hfar _ _ _ (by omega) hHeld.2))
                clear hZ hf9 hR9 hbz hfar c0 s0 c1 s1
                refine hK.out _ _ hs9 (fun hHeld => ?_)
                clear hs9
                clear hK K
                refine tk 13 hHeld ?_
                refine rd0 ?_
                have q0 := HO2.out.at_ 0 rfl
                have q1 := HO2.out.at_ 1 rfl
                have q2 := HO2.out.at_ 2 rfl
                have q3 := HO2.out.at_ 3 rfl
                have q4 := HO2.out.at_ 4 rfl
                have r0 := HO3.out.at_ 0 rfl
                have r1 := HO3.out.at_ 1 rfl
                have o0 := HO4.out.at_ 0 rfl
                have o1 := HO4.out.at_ 1 rfl
                clear hHeld
                go_wp2
                exact bodyPost_ret (v := .tuple #[.agg #[.slice xa P.length xc, .slice ya B.length yc, .slice za A.length zc, .int .i64 u, .int .i64 n], .agg #[.int .i64 x0, .int .i64 x1], .agg #[.int .i64 lm, .int .i64 sm], .int .i64 m]) (by simp [results, Tryd.results4, go_sem, q0, q1, q2, q3, q4, r0, r1, o0, o1]) rfl ⟨P, B, A, u, n, xa, xc, ya, yc, za, zc, x0, x1, lm, sm, m, rfl, HLEN.out, HRR.out.low (show w0.heap.size ≤ w1.heap.size by omega), HBB.out⟩
              · skip
                obtain ⟨Z, hZ, hf9, hR9, hbz, hfar⟩ := lab_put HO4.out HRR.out lm sm
                have c0 := HO4.out.at_ 0 rfl
                have c1 := HO4.out.at_ 1 rfl
                have s0 := HO4.out.soft 0
                have s1 := HO4.out.soft 1
                go_simp
                rw [← hZ]
                have HO4 := Lib.hid hf9
                have HRR := Lib.hid hR9
                have HBB := Lib.hid (HBB.out.trans (hbz.mono (by omega)))
                have HO2 := Lib.hid (hfar _ _ _ (by omega) HO2.out)
                have HO3 := Lib.hid (hfar _ _ _ (by omega) HO3.out)
                try have HBS := Lib.hid (hfar _ _ _ (by omega) HBS.out)
                have hs9 := (And.intro (hfar _ _ _ (by omega) hHeld.1) (hfar _ _ _ (by omega) hHeld.2))
                clear hZ hf9 hR9 hbz hfar c0 s0 c1 s1
                refine hK.out _ _ hs9 (fun hHeld => ?_)
                clear hs9
                clear hK K
                refine rd1 9 (fun K hK => ?_)
                have k0 := HBS.out.at_ k HKS.out
                go_simp
                refine hK.out _ _ hHeld (fun hHeld => ?_)
                clear k0
                clear hK K
                refine tk 13 hHeld ?_
                refine rd0 ?_
                have q0 := HO2.out.at_ 0 rfl
                have q1 := HO2.out.at_ 1 rfl
                have q2 := HO2.out.at_ 2 rfl
                have q3 := HO2.out.at_ 3 rfl
                have q4 := HO2.out.at_ 4 rfl
                have r0 := HO3.out.at_ 0 rfl
                have r1 := HO3.out.at_ 1 rfl
                have o0 := HO4.out.at_ 0 rfl
                have o1 := HO4.out.at_ 1 rfl
                clear hHeld
                go_wp2
                exact bodyPost_ret (v := .tuple #[.agg #[.slice xa P.length xc, .slice ya B.length yc, .slice za A.length zc, .int .i64 u, .int .i64 n], .agg #[.int .i64 x0, .int .i64 x1], .agg #[.int .i64 lm, .int .i64 sm], .int .i64 m]) (by simp [results, Tryd.results4, go_sem, q0, q1, q2, q3, q4, r0, r1, o0, o1]) rfl ⟨P, B, A, u, n, xa, xc, ya, yc, za, zc, x0, x1, lm, sm, m, rfl, HLEN.out, HRR.out.low (show w0.heap.size ≤ w1.heap.size by omega), HBB.out⟩
        · skip
          go_simp
          go_at_call 20
          refine (n_any g b len cap _ _ HSS.out (by omega)).mono ?_
          rintro e v4 ⟨z, rfl, v0, v1, hs, hb⟩
          have HO2 := Lib.hid (Blk.but HO2.out hb (by omega))
          have HO3 := Lib.hid (Blk.but HO3.out hb (by omega))
          have HO4 := Lib.hid (Blk.but HO4.out hb (by omega))
          have HRR := Lib.hid (r3_but HRR.out (show g < w1.heap.size from hgz) hb)
          have HBB := Lib.hid (HBB.out.trans (hb.below (B := w0.heap.size) HBB.out.size (by omega)))
          obtain ⟨k, m, rfl, hk3, hks⟩ : ∃ (k : Nat) (m : Int), z = (k : Int) ∧ k < 3 ∧ (#[.int .i64 (-1), .int .i64 1000000, .int .i64 1000001] : Array Value)[k]? = some (.int .i64 m) := by
            have : z = 0 ∨ z = 1 ∨ z = 2 := by omega
            rcases this with rfl | rfl | rfl
            · exact ⟨0, _, rfl, by decide, rfl⟩
            · exact ⟨1, _, rfl, by decide, rfl⟩
            · exact ⟨2, _, rfl, by decide, rfl⟩
          have HKS := Lib.hid hks
          have hi0 : (0 : Int) ≤ (k : Int) := Int.natCast_nonneg _
          have hi1 : (k : Int) < 3 := by omega
          try have HBS := Lib.hid (Blk.but HBS.out hb (by omega))
          clear hks
          have HSS := Lib.hid hs
          have hs9 : Blk v4 t7 25 #[.slice xa P.length xc, .slice ya B.length yc, .slice za A.length zc, .int .i64 u, .int .i64 n] ∧ Blk v4 bx 48 #[.int .i64 x0, .int .i64 x1, .int .i64 lm, .int .i64 sm, .int .i64 x4, .int .i64 x5] := ⟨Blk.but hHeld.1 hb (by omega), Blk.but hHeld.2 hb (by omega)⟩
          clear hs hb v0 v1
          refine hK.out _ _ hs9 (fun hHeld => ?_)
          clear hs9
          clear hK K
          refine rd2 5 10 (fun K hK => ?_) (fun K hK => ?_)
          · skip
            obtain ⟨U, bs, hU, hbs, hXU, hbU, hbt⟩ := bs_new hHeld.1
            go_simp
            rw [← hU, ← hbs]
            have HO2 := Lib.hid (HO2.out.call hbU)
            have HO3 := Lib.hid (HO3.out.call hbU)
            have HO4 := Lib.hid (HO4.out.call hbU)
            have HRR := Lib.hid (HRR.out.call hbU)
            have HBB := Lib.hid (HBB.out.trans (hbU.mono HBB.out.size))
            try have HSS := Lib.hid (HSS.out.mono (hbU.mono HSS.out.lt))
            have HBS := Lib.hid hXU
            have hs9 : Blk U t7 25 #[.slice xa P.length xc, .slice ya B.length yc, .slice za A.length zc, .int .i64 u, .int .i64 n] ∧ Blk U bx 48 #[.int .i64 x0, .int .i64 x1, .int .i64 lm, .int .i64 sm, .int .i64 x4, .int .i64 x5] := ⟨hHeld.1.call hbU, hHeld.2.call hbU⟩
            clear hU hbs hXU hbU
            refine hK.out _ _ hs9 (fun hHeld => ?_)
            clear hs9
            clear hK K
            refine tk 8 hHeld ?_
            refine rd2 9 10 (fun K hK => ?_) (fun K hK => ?_)
            · skip
              have k0 := HBS.out.at_ k HKS.out
              go_simp
              refine hK.out _ _ hHeld (fun hHeld => ?_)
              clear k0
              clear hK K
              refine rd1 10 (fun K hK => ?_)
              obtain ⟨Z, hZ, hf9, hR9, hbz, hfar⟩ := out_put (u := u) (n := n) HO2.out HRR.out
              have c0 := HO2.out.at_ 0 rfl
              have c1 := HO2.out.at_ 1 rfl
              have c2 := HO2.out.at_ 2 rfl
              have c3 := HO2.out.at_ 3 rfl
              have c4 := HO2.out.at_ 4 rfl
              have s0 := HO2.out.soft 0
              have s1 := HO2.out.soft 1
              have s2 := HO2.out.soft 2
              have s3 := HO2.out.soft 3
              have s4 := HO2.out.soft 4
              go_simp
              rw [← hZ]
              have HO2 := Lib.hid hf9
              have HRR := Lib.hid hR9
              have HBB := Lib.hid (HBB.out.trans (hbz.mono (by omega)))
              have HO3 := Lib.hid (hfar _ _ _ (by omega) HO3.out)
              have HO4 := Lib.hid (hfar _ _ _ (by omega) HO4.out)
              try have HBS := Lib.hid (hfar _ _ _ (by omega) HBS.out)
              have hs9 := (And.intro (hfar _ _ _ (by omega) hHeld.1) (hfar _ _ _ (by omega) hHeld.2))
              clear hZ hf9 hR9 hbz hfar c0 s0 c1 s1 c2 s2 c3 s3 c4 s4
              refine hK.out _ _ hs9 (fun hHeld => ?_)
              clear hs9
              clear hK K
              refine rd1 11 (fun K hK => ?_)
              obtain ⟨Z, hZ, hf9, hR9, hbz, hfar⟩ := lab_put HO3.out HRR.out x0 x1
              have c0 := HO3.out.at_ 0 rfl
              have c1 := HO3.out.at_ 1 rfl
              have s0 := HO3.out.soft 0
              have s1 := HO3.out.soft 1
              go_simp
              rw [← hZ]
              have HO3 := Lib.hid hf9
              have HRR := Lib.hid hR9
              have HBB := Lib.hid (HBB.out.trans (hbz.mono (by omega)))
              have HO2 := Lib.hid (hfar _ _ _ (by omega) HO2.out)
              have HO4 := Lib.hid (hfar _ _ _ (by omega) HO4.out)
              try have HBS := Lib.hid (hfar _ _ _ (by omega) HBS.out)
              have hs9 := (And.intro (hfar _ _ _ (by omega) hHeld.1) (hfar _ _ _ (by omega) hHeld.2))
              clear hZ hf9 hR9 hbz hfar c0 s0 c1 s1
              refine hK.out _ _ hs9 (fun hHeld => ?_)
              clear hs9
              clear hK K
              refine rd1 12 (fun K hK => ?_)
              obtain ⟨Z, hZ, hf9, hR9, hbz, hfar⟩ := lab_put HO4.out HRR.out lm sm
              have c0 := HO4.out.at_ 0 rfl
              have c1 := HO4.out.at_ 1 rfl
              have s0 := HO4.out.soft 0
              have s1 := HO4.out.soft 1
              go_simp
              rw [← hZ]
              have HO4 := Lib.hid hf9
              have HRR := Lib.hid hR9
              have HBB := Lib.hid (HBB.out.trans (hbz.mono (by omega)))
              have HO2 := Lib.hid (hfar _ _ _ (by omega) HO2.out)
              have HO3 := Lib.hid (hfar _ _ _ (by omega) HO3.out)
              try have HBS := Lib.hid (hfar _ _ _ (by omega) HBS.out)
              have hs9 := (And.intro (hfar _ _ _ (by omega) hHeld.1) (hfar _ _ _ (by omega) hHeld.2))
              clear hZ hf9 hR9 hbz hfar c0 s0 c1 s1
              refine hK.out _ _ hs9 (fun hHeld => ?_)
              clear hs9
              clear hK K
              refine tk 13 hHeld ?_
              refine rd0 ?_
              have q0 := HO2.out.at_ 0 rfl
              have q1 := HO2.out.at_ 1 rfl
              have q2 := HO2.out.at_ 2 rfl
              have q3 := HO2.out.at_ 3 rfl
              have q4 := HO2.out.at_ 4 rfl
              have r0 := HO3.out.at_ 0 rfl
              have r1 := HO3.out.at_ 1 rfl
              have o0 := HO4.out.at_ 0 rfl
              have o1 := HO4.out.at_ 1 rfl
              clear hHeld
              go_wp2
              exact bodyPost_ret (v := .tuple #[.agg #[.slice xa P.length xc, .slice ya B.length yc, .slice za A.length zc, .int .i64 u, .int .i64 n], .agg #[.int .i64 x0, .int .i64 x1], .agg #[.int .i64 lm, .int .i64 sm], .int .i64 m]) (by simp [results, Tryd.results4, go_sem, q0, q1, q2, q3, q4, r0, r1, o0, o1]) rfl ⟨P, B, A, u, n, xa, xc, ya, yc, za, zc, x0, x1, lm, sm, m, rfl, HLEN.out, HRR.out.low (show w0.heap.size ≤ w1.heap.size by omega), HBB.out⟩
            · skip
              obtain ⟨Z, hZ, hf9, hR9, hbz, hfar⟩ := out_put (u := u) (n := n) HO2.out HRR.out
              have c0 := HO2.out.at_ 0 rfl
              have c1 := HO2.out.at_ 1 rfl
              have c2 := HO2.out.at_ 2 rfl
              have c3 := HO2.out.at_ 3 rfl
              have c4 := HO2.out.at_ 4 rfl
              have s0 := HO2.out.soft 0
              have s1 := HO2.out.soft 1
              have s2 := HO2.out.soft 2
              have s3 := HO2.out.soft 3
              have s4 := HO2.out.soft 4
              go_simp
              rw [← hZ]
              have HO2 := Lib.hid hf9
              have HRR := Lib.hid hR9
              have HBB := Lib.hid (HBB.out.trans (hbz.mono (by omega)))
              have HO3 := Lib.hid (hfar _ _ _ (by omega) HO3.out)
              have HO4 := Lib.hid (hfar _ _ _ (by omega) HO4.out)
              try have HBS := Lib.hid (hfar _ _ _ (by omega) HBS.out)
              have hs9 := (And.intro (hfar _ _ _ (by omega) hHeld.1) (hfar _ _ _ (by omega) hHeld.2))
              clear hZ hf9 hR9 hbz hfar c0 s0 c1 s1 c2 s2 c3 s3 c4 s4
              refine hK.out _ _ hs9 (fun hHeld => ?_)
              clear hs9
              clear hK K
              refine rd2 9 11 (fun K hK => ?_) (fun K hK => ?_)
              · skip
                have k0 := HBS.out.at_ k HKS.out
                go_simp
                refine hK.out _ _ hHeld (fun hHeld => ?_)
                clear k0
                clear hK K
                refine rd1 11 (fun K hK => ?_)
                obtain ⟨Z, hZ, hf9, hR9, hbz, hfar⟩ := lab_put HO3.out HRR.out x0 x1
                have c0 := HO3.out.at_ 0 rfl
                have c1 := HO3.out.at_ 1 rfl
                have s0 := HO3.out.soft 0
                have s1 := HO3.out.soft 1
                go_simp
                rw [← hZ]
                have HO3 := Lib.hid hf9
                have HRR := Lib.hid hR9
                have HBB := Lib.hid (HBB.out.trans (hbz.mono (by omega)))
                have HO2 := Lib.hid (hfar _ _ _ (by omega) HO2.out)
                have HO4 := Lib.hid (hfar _ _ _ (by omega) HO4.out)
                try have HBS := Lib.hid (hfar _ _ _ (by omega) HBS.out)
                have hs9 := (And.intro (hfar _ _ _ (by omega) hHeld.1) (hfar _ _ _ (by omega) hHeld.2))
                clear hZ hf9 hR9 hbz hfar c0 s0 c1 s1
                refine hK.out _ _ hs9 (fun hHeld => ?_)
                clear hs9
                clear hK K
                refine rd1 12 (fun K hK => ?_)
                obtain ⟨Z, hZ, hf9, hR9, hbz, hfar⟩ := lab_put HO4.out HRR.out lm sm
                have c0 := HO4.out.at_ 0 rfl
                have c1 := HO4.out.at_ 1 rfl
                have s0 := HO4.out.soft 0
                have s1 := HO4.out.soft 1
                go_simp
                rw [← hZ]
                have HO4 := Lib.hid hf9
                have HRR := Lib.hid hR9
                have HBB := Lib.hid (HBB.out.trans (hbz.mono (by omega)))
                have HO2 := Lib.hid (hfar _ _ _ (by omega) HO2.out)
                have HO3 := Lib.hid (hfar _ _ _ (by omega) HO3.out)
                try have HBS := Lib.hid (hfar _ _ _ (by omega) HBS.out)
                have hs9 := (And.intro (hfar _ _ _ (by omega) hHeld.1) (hfar _ _ _ (by omega) hHeld.2))
                clear hZ hf9 hR9 hbz hfar c0 s0 c1 s1
                refine hK.out _ _ hs9 (fun hHeld => ?_)
                clear hs9
                clear hK K
                refine tk 13 hHeld ?_
                refine rd0 ?_
                have q0 := HO2.out.at_ 0 rfl
                have q1 := HO2.out.at_ 1 rfl
                have q2 := HO2.out.at_ 2 rfl
                have q3 := HO2.out.at_ 3 rfl
                have q4 := HO2.out.at_ 4 rfl
                have r0 := HO3.out.at_ 0 rfl
                have r1 := HO3.out.at_ 1 rfl
                have o0 := HO4.out.at_ 0 rfl
                have o1 := HO4.out.at_ 1 rfl
                clear hHeld
                go_wp2
                exact bodyPost_ret (v := .tuple #[.agg #[.slice xa P.length xc, .slice ya B.length yc, .slice za A.length zc, .int .i64 u, .int .i64 n], .agg #[.int .i64 x0, .int .i64 x1], .agg #[.int .i64 lm, .int .i64 sm], .int .i64 m]) (by simp [results, Tryd.results4, go_sem, q0, q1, q2, q3, q4, r0, r1, o0, o1]) rfl ⟨P, B, A, u, n, xa, xc, ya, yc, za, zc, x0, x1, lm, sm, m, rfl, HLEN.out, HRR.out.low (show w0.heap.size ≤ w1.heap.size by omega), HBB.out⟩
              · skip
                obtain ⟨Z, hZ, hf9, hR9, hbz, hfar⟩ := lab_put HO3.out HRR.out x0 x1
                have c0 := HO3.out.at_ 0 rfl
                have c1 := HO3.out.at_ 1 rfl
                have s0 := HO3.out.soft 0
                have s1 := HO3.out.soft 1
                go_simp
                rw [← hZ]
                have HO3 := Lib.hid hf9
                have HRR := Lib.hid hR9
                have HBB := Lib.hid (HBB.out.trans (hbz.mono (by omega)))
                have HO2 := Lib.hid (hfar _ _ _ (by omega) HO2.out)
                have HO4 := Lib.hid (hfar _ _ _ (by omega) HO4.out)
                try have HBS := Lib.hid (hfar _ _ _ (by omega) HBS.out)
                have hs9 := (And.intro (hfar _ _ _ (by omega) hHeld.1) (hfar _ _ _ (by omega) hHeld.2))
                clear hZ hf9 hR9 hbz hfar c0 s0 c1 s1
                refine hK.out _ _ hs9 (fun hHeld => ?_)
                clear hs9
                clear hK K
                refine rd2 9 12 (fun K hK => ?_) (fun K hK => ?_)
                · skip
                  have k0 := HBS.out.at_ k HKS.out
                  go_simp
                  refine hK.out _ _ hHeld (fun hHeld => ?_)
                  clear k0
                  clear hK K
                  refine rd1 12 (fun K hK => ?_)
                  obtain ⟨Z, hZ, hf9, hR9, hbz, hfar⟩ := lab_put HO4.out HRR.out lm sm
                  have c0 := HO4.out.at_ 0 rfl
                  have c1 := HO4.out.at_ 1 rfl
                  have s0 := HO4.out.soft 0
                  have s1 := HO4.out.soft 1
                  go_simp
                  rw [← hZ]
                  have HO4 := Lib.hid hf9
                  have HRR := Lib.hid hR9
                  have HBB := Lib.hid (HBB.out.trans (hbz.mono (by omega)))
                  have HO2 := Lib.hid (hfar _ _ _ (by omega) HO2.out)
                  have HO3 := Lib.hid (hfar _ _ _ (by omega) HO3.out)
                  try have HBS := Lib.hid (hfar _ _ _ (by omega) HBS.out)
                  have hs9 := (And.intro (hfar _ _ _ (by omega) hHeld.1) (hfar _ _ _ (by omega) hHeld.2))
                  clear hZ hf9 hR9 hbz hfar c0 s0 c1 s1
                  refine hK.out _ _ hs9 (fun hHeld => ?_)
                  clear hs9
                  clear hK K
                  refine tk 13 hHeld ?_
                  refine rd0 ?_
                  have q0 := HO2.out.at_ 0 rfl
                  have q1 := HO2.out.at_ 1 rfl
                  have q2 := HO2.out.at_ 2 rfl
                  have q3 := HO2.out.at_ 3 rfl
                  have q4 := HO2.out.at_ 4 rfl
                  have r0 := HO3.out.at_ 0 rfl
                  have r1 := HO3.out.at_ 1 rfl
                  have o0 := HO4.out.at_ 0 rfl
                  have o1 := HO4.out.at_ 1 rfl
                  clear hHeld
                  go_wp2
                  exact bodyPost_ret (v := .tuple #[.agg #[.slice xa P.length xc, .slice ya B.length yc, .slice za A.length zc, .int .i64 u, .int .i64 n], .agg #[.int .i64 x0, .int .i64 x1], .agg #[.int .i64 lm, .int .i64 sm], .int .i64 m]) (by simp [results, Tryd.results4, go_sem, q0, q1, q2, q3, q4, r0, r1, o0, o1]) rfl ⟨P, B, A, u, n, xa, xc, ya, yc, za, zc, x0, x1, lm, sm, m, rfl, HLEN.out, HRR.out.low (show w0.heap.size ≤ w1.heap.size by omega), HBB.out⟩
                · skip
                  obtain ⟨Z, hZ, hf9, hR9, hbz, hfar⟩ := lab_put HO4.out HRR.out lm sm
                  have c0 := HO4.out.at_ 0 rfl
                  have c1 := HO4.out.at_ 1 rfl
                  have s0 := HO4.out.soft 0
                  have s1 := HO4.out.soft 1
                  go_simp
                  rw [← hZ]
                  have HO4 := Lib.hid hf9
                  have HRR := Lib.hid hR9
                  have HBB := Lib.hid (HBB.out.trans (hbz.mono (by omega)))
                  have HO2 := Lib.hid (hfar _ _ _ (by omega) HO2.out)
                  have HO3 := Lib.hid (hfar _ _ _ (by omega) HO3.out)
                  try have HBS := Lib.hid (hfar _ _ _ (by omega) HBS.out)
                  have hs9 := (And.intro (hfar _ _ _ (by omega) hHeld.1) (hfar _ _ _ (by omega) hHeld.2))
                  clear hZ hf9 hR9 hbz hfar c0 s0 c1 s1
                  refine hK.out _ _ hs9 (fun hHeld => ?_)
                  clear hs9
                  clear hK K
                  refine rd1 9 (fun K hK => ?_)
                  have k0 := HBS.out.at_ k HKS.out
                  go_simp
                  refine hK.out _ _ hHeld (fun hHeld => ?_)
                  clear k0
                  clear hK K
                  refine tk 13 hHeld ?_
                  refine rd0 ?_
                  have q0 := HO2.out.at_ 0 rfl
                  have q1 := HO2.out.at_ 1 rfl
                  have q2 := HO2.out.at_ 2 rfl
                  have q3 := HO2.out.at_ 3 rfl
                  have q4 := HO2.out.at_ 4 rfl
                  have r0 := HO3.out.at_ 0 rfl
                  have r1 := HO3.out.at_ 1 rfl
                  have o0 := HO4.out.at_ 0 rfl
                  have o1 := HO4.out.at_ 1 rfl
                  clear hHeld
                  go_wp2
                  exact bodyPost_ret (v := .tuple #[.agg #[.slice xa P.length xc, .slice ya B.length yc, .slice za A.length zc, .int .i64 u, .int .i64 n], .agg #[.int .i64 x0, .int .i64 x1], .agg #[.int .i64 lm, .int .i64 sm], .int .i64 m]) (by simp [results, Tryd.results4, go_sem, q0, q1, q2, q3, q4, r0, r1, o0, o1]) rfl ⟨P, B, A, u, n, xa, xc, ya, yc, za, zc, x0, x1, lm, sm, m, rfl, HLEN.out, HRR.out.low (show w0.heap.size ≤ w1.heap.size by omega), HBB.out⟩
          · skip
            obtain ⟨Z, hZ, hf9, hR9, hbz, hfar⟩ := out_put (u := u) (n := n) HO2.out HRR.out
            have c0 := HO2.out.at_ 0 rfl
            have c1 := HO2.out.at_ 1 rfl
            have c2 := HO2.out.at_ 2 rfl
            have c3 := HO2.out.at_ 3 rfl
            have c4 := HO2.out.at_ 4 rfl
            have s0 := HO2.out.soft 0
            have s1 := HO2.out.soft 1
            have s2 := HO2.out.soft 2
            have s3 := HO2.out.soft 3
            have s4 := HO2.out.soft 4
            go_simp
            rw [← hZ]
            have HO2 := Lib.hid hf9
            have HRR := Lib.hid hR9
            have HBB := Lib.hid (HBB.out.trans (hbz.mono (by omega)))
            have HO3 := Lib.hid (hfar _ _ _ (by omega) HO3.out)
            have HO4 := Lib.hid (hfar _ _ _ (by omega) HO4.out)
            try have HBS := Lib.hid (hfar _ _ _ (by omega) HBS.out)
            have hs9 := (And.intro (hfar _ _ _ (by omega) hHeld.1) (hfar _ _ _ (by omega) hHeld.2))
            clear hZ hf9 hR9 hbz hfar c0 s0 c1 s1 c2 s2 c3 s3 c4 s4
            refine hK.out _ _ hs9 (fun hHeld => ?_)
            clear hs9
            clear hK K
            refine rd2 5 11 (fun K hK => ?_) (fun K hK => ?_)
            · skip
              obtain ⟨U, bs, hU, hbs, hXU, hbU, hbt⟩ := bs_new hHeld.1
              go_simp
              rw [← hU, ← hbs]
              have HO2 := Lib.hid (HO2.out.call hbU)
              have HO3 := Lib.hid (HO3.out.call hbU)
              have HO4 := Lib.hid (HO4.out.call hbU)
              have HRR := Lib.hid (HRR.out.call hbU)
              have HBB := Lib.hid (HBB.out.trans (hbU.mono HBB.out.size))
              try have HSS := Lib.hid (HSS.out.mono (hbU.mono HSS.out.lt))
              have HBS := Lib.hid hXU
              have hs9 : Blk U t7 25 #[.slice xa P.length xc, .slice ya B.length yc, .slice za A.length zc, .int .i64 u, .int .i64 n] ∧ Blk U bx 48 #[.int .i64 x0, .int .i64 x1, .int .i64 lm, .int .i64 sm, .int .i64 x4, .int .i64 x5] := ⟨hHeld.1.call hbU, hHeld.2.call hbU⟩
              clear hU hbs hXU hbU
              refine hK.out _ _ hs9 (fun hHeld => ?_)
              clear hs9
              clear hK K
              refine tk 8 hHeld ?_
              refine rd2 9 11 (fun K hK => ?_) (fun K hK => ?_)
              · skip
                have k0 := HBS.out.at_ k HKS.out
                go_simp
                refine hK.out _ _ hHeld (fun hHeld => ?_)
                clear k0
                clear hK K
                refine rd1 11 (fun K hK => ?_)
                obtain ⟨Z, hZ, hf9, hR9, hbz, hfar⟩ := lab_put HO3.out HRR.out x0 x1
                have c0 := HO3.out.at_ 0 rfl
                have c1 := HO3.out.at_ 1 rfl
                have s0 := HO3.out.soft 0
                have s1 := HO3.out.soft 1
                go_simp
                rw [← hZ]
                have HO3 := Lib.hid hf9
                have HRR := Lib.hid hR9
                have HBB := Lib.hid (HBB.out.trans (hbz.mono (by omega)))
                have HO2 := Lib.hid (hfar _ _ _ (by omega) HO2.out)
                have HO4 := Lib.hid (hfar _ _ _ (by omega) HO4.out)
                try have HBS := Lib.hid (hfar _ _ _ (by omega) HBS.out)
                have hs9 := (And.intro (hfar _ _ _ (by omega) hHeld.1) (hfar _ _ _ (by omega) hHeld.2))
                clear hZ hf9 hR9 hbz hfar c0 s0 c1 s1
                refine hK.out _ _ hs9 (fun hHeld => ?_)
                clear hs9
                clear hK K
                refine rd1 12 (fun K hK => ?_)
                obtain ⟨Z, hZ, hf9, hR9, hbz, hfar⟩ := lab_put HO4.out HRR.out lm sm
                have c0 := HO4.out.at_ 0 rfl
                have c1 := HO4.out.at_ 1 rfl
                have s0 := HO4.out.soft 0
                have s1 := HO4.out.soft 1
                go_simp
                rw [← hZ]
                have HO4 := Lib.hid hf9
                have HRR := Lib.hid hR9
                have HBB := Lib.hid (HBB.out.trans (hbz.mono (by omega)))
                have HO2 := Lib.hid (hfar _ _ _ (by omega) HO2.out)
                have HO3 := Lib.hid (hfar _ _ _ (by omega) HO3.out)
                try have HBS := Lib.hid (hfar _ _ _ (by omega) HBS.out)
                have hs9 := (And.intro (hfar _ _ _ (by omega) hHeld.1) (hfar _ _ _ (by omega) hHeld.2))
                clear hZ hf9 hR9 hbz hfar c0 s0 c1 s1
                refine hK.out _ _ hs9 (fun hHeld => ?_)
                clear hs9
                clear hK K
                refine tk 13 hHeld ?_
                refine rd0 ?_
                have q0 := HO2.out.at_ 0 rfl
                have q1 := HO2.out.at_ 1 rfl
                have q2 := HO2.out.at_ 2 rfl
                have q3 := HO2.out.at_ 3 rfl
                have q4 := HO2.out.at_ 4 rfl
                have r0 := HO3.out.at_ 0 rfl
                have r1 := HO3.out.at_ 1 rfl
                have o0 := HO4.out.at_ 0 rfl
                have o1 := HO4.out.at_ 1 rfl
                clear hHeld
                go_wp2
                exact bodyPost_ret (v := .tuple #[.agg #[.slice xa P.length xc, .slice ya B.length yc, .slice za A.length zc, .int .i64 u, .int .i64 n], .agg #[.int .i64 x0, .int .i64 x1], .agg #[.int .i64 lm, .int .i64 sm], .int .i64 m]) (by simp [results, Tryd.results4, go_sem, q0, q1, q2, q3, q4, r0, r1, o0, o1]) rfl ⟨P, B, A, u, n, xa, xc, ya, yc, za, zc, x0, x1, lm, sm, m, rfl, HLEN.out, HRR.out.low (show w0.heap.size ≤ w1.heap.size by omega), HBB.out⟩
              · skip
                obtain ⟨Z, hZ, hf9, hR9, hbz, hfar⟩ := lab_put HO3.out HRR.out x0 x1
                have c0 := HO3.out.at_ 0 rfl
                have c1 := HO3.out.at_ 1 rfl
                have s0 := HO3.out.soft 0
                have s1 := HO3.out.soft 1
                go_simp
                rw [← hZ]
                have HO3 := Lib.hid hf9
                have HRR := Lib.hid hR9
                have HBB := Lib.hid (HBB.out.trans (hbz.mono (by omega)))
                have HO2 := Lib.hid (hfar _ _ _ (by omega) HO2.out)
                have HO4 := Lib.hid (hfar _ _ _ (by omega) HO4.out)
                try have HBS := Lib.hid (hfar _ _ _ (by omega) HBS.out)
                have hs9 := (And.intro (hfar _ _ _ (by omega) hHeld.1) (hfar _ _ _ (by omega) hHeld.2))
                clear hZ hf9 hR9 hbz hfar c0 s0 c1 s1
                refine hK.out _ _ hs9 (fun hHeld => ?_)
                clear hs9
                clear hK K
                refine rd2 9 12 (fun K hK => ?_) (fun K hK => ?_)
                · skip
                  have k0 := HBS.out.at_ k HKS.out
                  go_simp
                  refine hK.out _ _ hHeld (fun hHeld => ?_)
                  clear k0
                  clear hK K
                  refine rd1 12 (fun K hK => ?_)
                  obtain ⟨Z, hZ, hf9, hR9, hbz, hfar⟩ := lab_put HO4.out HRR.out lm sm
                  have c0 := HO4.out.at_ 0 rfl
                  have c1 := HO4.out.at_ 1 rfl
                  have s0 := HO4.out.soft 0
                  have s1 := HO4.out.soft 1
                  go_simp
                  rw [← hZ]
                  have HO4 := Lib.hid hf9
                  have HRR := Lib.hid hR9
                  have HBB := Lib.hid (HBB.out.trans (hbz.mono (by omega)))
                  have HO2 := Lib.hid (hfar _ _ _ (by omega) HO2.out)
                  have HO3 := Lib.hid (hfar _ _ _ (by omega) HO3.out)
                  try have HBS := Lib.hid (hfar _ _ _ (by omega) HBS.out)
                  have hs9 := (And.intro (hfar _ _ _ (by omega) hHeld.1) (hfar _ _ _ (by omega) hHeld.2))
                  clear hZ hf9 hR9 hbz hfar c0 s0 c1 s1
                  refine hK.out _ _ hs9 (fun hHeld => ?_)
                  clear hs9
                  clear hK K
                  refine tk 13 hHeld ?_
                  refine rd0 ?_
                  have q0 := HO2.out.at_ 0 rfl
                  have q1 := HO2.out.at_ 1 rfl
                  have q2 := HO2.out.at_ 2 rfl
                  have q3 := HO2.out.at_ 3 rfl
                  have q4 := HO2.out.at_ 4 rfl
                  have r0 := HO3.out.at_ 0 rfl
                  have r1 := HO3.out.at_ 1 rfl
                  have o0 := HO4.out.at_ 0 rfl
                  have o1 := HO4.out.at_ 1 rfl
                  clear hHeld
                  go_wp2
                  exact bodyPost_ret (v := .tuple #[.agg #[.slice xa P.length xc, .slice ya B.length yc, .slice za A.length zc, .int .i64 u, .int .i64 n], .agg #[.int .i64 x0, .int .i64 x1], .agg #[.int .i64 lm, .int .i64 sm], .int .i64 m]) (by simp [results, Tryd.results4, go_sem, q0, q1, q2, q3, q4, r0, r1, o0, o1]) rfl ⟨P, B, A, u, n, xa, xc, ya, yc, za, zc, x0, x1, lm, sm, m, rfl, HLEN.out, HRR.out.low (show w0.heap.size ≤ w1.heap.size by omega), HBB.out⟩
                · skip
                  obtain ⟨Z, hZ, hf9, hR9, hbz, hfar⟩ := lab_put HO4.out HRR.out lm sm
                  have c0 := HO4.out.at_ 0 rfl
                  have c1 := HO4.out.at_ 1 rfl
                  have s0 := HO4.out.soft 0
                  have s1 := HO4.out.soft 1
                  go_simp
                  rw [← hZ]
                  have HO4 := Lib.hid hf9
                  have HRR := Lib.hid hR9
                  have HBB := Lib.hid (HBB.out.trans (hbz.mono (by omega)))
                  have HO2 := Lib.hid (hfar _ _ _ (by omega) HO2.out)
                  have HO3 := Lib.hid (hfar _ _ _ (by omega) HO3.out)
                  try have HBS := Lib.hid (hfar _ _ _ (by omega) HBS.out)
                  have hs9 := (And.intro (hfar _ _ _ (by omega) hHeld.1) (hfar _ _ _ (by omega) hHeld.2))
                  clear hZ hf9 hR9 hbz hfar c0 s0 c1 s1
                  refine hK.out _ _ hs9 (fun hHeld => ?_)
                  clear hs9
                  clear hK K
                  refine rd1 9 (fun K hK => ?_)
                  have k0 := HBS.out.at_ k HKS.out
                  go_simp
                  refine hK.out _ _ hHeld (fun hHeld => ?_)
                  clear k0
                  clear hK K
                  refine tk 13 hHeld ?_
                  refine rd0 ?_
                  have q0 := HO2.out.at_ 0 rfl
                  have q1 := HO2.out.at_ 1 rfl
                  have q2 := HO2.out.at_ 2 rfl
                  have q3 := HO2.out.at_ 3 rfl
                  have q4 := HO2.out.at_ 4 rfl
                  have r0 := HO3.out.at_ 0 rfl
                  have r1 := HO3.out.at_ 1 rfl
                  have o0 := HO4.out.at_ 0 rfl
                  have o1 := HO4.out.at_ 1 rfl
                  clear hHeld
                  go_wp2
                  exact bodyPost_ret (v := .tuple #[.agg #[.slice xa P.length xc, .slice ya B.length yc, .slice za A.length zc, .int .i64 u, .int .i64 n], .agg #[.int .i64 x0, .int .i64 x1], .agg #[.int .i64 lm, .int .i64 sm], .int .i64 m]) (by simp [results, Tryd.results4, go_sem, q0, q1, q2, q3, q4, r0, r1, o0, o1]) rfl ⟨P, B, A, u, n, xa, xc, ya, yc, za, zc, x0, x1, lm, sm, m, rfl, HLEN.out, HRR.out.low (show w0.heap.size ≤ w1.heap.size by omega), HBB.out⟩
            · skip
              obtain ⟨Z, hZ, hf9, hR9, hbz, hfar⟩ := lab_put HO3.out HRR.out x0 x1
              have c0 := HO3.out.at_ 0 rfl
              have c1 := HO3.out.at_ 1 rfl
              have s0 := HO3.out.soft 0
              have s1 := HO3.out.soft 1
              go_simp
              rw [← hZ]
              have HO3 := Lib.hid hf9
              have HRR := Lib.hid hR9
              have HBB := Lib.hid (HBB.out.trans (hbz.mono (by omega)))
              have HO2 := Lib.hid (hfar _ _ _ (by omega) HO2.out)
              have HO4 := Lib.hid (hfar _ _ _ (by omega) HO4.out)
              try have HBS := Lib.hid (hfar _ _ _ (by omega) HBS.out)
              have hs9 := (And.intro (hfar _ _ _ (by omega) hHeld.1) (hfar _ _ _ (by omega) hHeld.2))
              clear hZ hf9 hR9 hbz hfar c0 s0 c1 s1
              refine hK.out _ _ hs9 (fun hHeld => ?_)
              clear hs9
              clear hK K
              refine rd2 5 12 (fun K hK => ?_) (fun K hK => ?_)
              · skip
                obtain ⟨U, bs, hU, hbs, hXU, hbU, hbt⟩ := bs_new hHeld.1
                go_simp
                rw [← hU, ← hbs]
                have HO2 := Lib.hid (HO2.out.call hbU)
                have HO3 := Lib.hid (HO3.out.call hbU)
                have HO4 := Lib.hid (HO4.out.call hbU)
                have HRR := Lib.hid (HRR.out.call hbU)
                have HBB := Lib.hid (HBB.out.trans (hbU.mono HBB.out.size))
                try have HSS := Lib.hid (HSS.out.mono (hbU.mono HSS.out.lt))
                have HBS := Lib.hid hXU
                have hs9 : Blk U t7 25 #[.slice xa P.length xc, .slice ya B.length yc, .slice za A.length zc, .int .i64 u, .int .i64 n] ∧ Blk U bx 48 #[.int .i64 x0, .int .i64 x1, .int .i64 lm, .int .i64 sm, .int .i64 x4, .int .i64 x5] := ⟨hHeld.1.call hbU, hHeld.2.call hbU⟩
                clear hU hbs hXU hbU
                refine hK.out _ _ hs9 (fun hHeld => ?_)
                clear hs9
                clear hK K
                refine tk 8 hHeld ?_
                refine rd2 9 12 (fun K hK => ?_) (fun K hK => ?_)
                · skip
                  have k0 := HBS.out.at_ k HKS.out
                  go_simp
                  refine hK.out _ _ hHeld (fun hHeld => ?_)
                  clear k0
                  clear hK K
                  refine rd1 12 (fun K hK => ?_)
                  obtain ⟨Z, hZ, hf9, hR9, hbz, hfar⟩ := lab_put HO4.out HRR.out lm sm
                  have c0 := HO4.out.at_ 0 rfl
                  have c1 := HO4.out.at_ 1 rfl
                  have s0 := HO4.out.soft 0
                  have s1 := HO4.out.soft 1
                  go_simp
                  rw [← hZ]
                  have HO4 := Lib.hid hf9
                  have HRR := Lib.hid hR9
                  have HBB := Lib.hid (HBB.out.trans (hbz.mono (by omega)))
                  have HO2 := Lib.hid (hfar _ _ _ (by omega) HO2.out)
                  have HO3 := Lib.hid (hfar _ _ _ (by omega) HO3.out)
                  try have HBS := Lib.hid (hfar _ _ _ (by omega) HBS.out)
                  have hs9 := (And.intro (hfar _ _ _ (by omega) hHeld.1) (hfar _ _ _ (by omega) hHeld.2))
                  clear hZ hf9 hR9 hbz hfar c0 s0 c1 s1
                  refine hK.out _ _ hs9 (fun hHeld => ?_)
                  clear hs9
                  clear hK K
                  refine tk 13 hHeld ?_
                  refine rd0 ?_
                  have q0 := HO2.out.at_ 0 rfl
                  have q1 := HO2.out.at_ 1 rfl
                  have q2 := HO2.out.at_ 2 rfl
                  have q3 := HO2.out.at_ 3 rfl
                  have q4 := HO2.out.at_ 4 rfl
                  have r0 := HO3.out.at_ 0 rfl
                  have r1 := HO3.out.at_ 1 rfl
                  have o0 := HO4.out.at_ 0 rfl
                  have o1 := HO4.out.at_ 1 rfl
                  clear hHeld
                  go_wp2
                  exact bodyPost_ret (v := .tuple #[.agg #[.slice xa P.length xc, .slice ya B.length yc, .slice za A.length zc, .int .i64 u, .int .i64 n], .agg #[.int .i64 x0, .int .i64 x1], .agg #[.int .i64 lm, .int .i64 sm], .int .i64 m]) (by simp [results, Tryd.results4, go_sem, q0, q1, q2, q3, q4, r0, r1, o0, o1]) rfl ⟨P, B, A, u, n, xa, xc, ya, yc, za, zc, x0, x1, lm, sm, m, rfl, HLEN.out, HRR.out.low (show w0.heap.size ≤ w1.heap.size by omega), HBB.out⟩
                · skip
                  obtain ⟨Z, hZ, hf9, hR9, hbz, hfar⟩ := lab_put HO4.out HRR.out lm sm
                  have c0 := HO4.out.at_ 0 rfl
                  have c1 := HO4.out.at_ 1 rfl
                  have s0 := HO4.out.soft 0
                  have s1 := HO4.out.soft 1
                  go_simp
                  rw [← hZ]
                  have HO4 := Lib.hid hf9
                  have HRR := Lib.hid hR9
                  have HBB := Lib.hid (HBB.out.trans (hbz.mono (by omega)))
                  have HO2 := Lib.hid (hfar _ _ _ (by omega) HO2.out)
                  have HO3 := Lib.hid (hfar _ _ _ (by omega) HO3.out)
                  try have HBS := Lib.hid (hfar _ _ _ (by omega) HBS.out)
                  have hs9 := (And.intro (hfar _ _ _ (by omega) hHeld.1) (hfar _ _ _ (by omega) hHeld.2))
                  clear hZ hf9 hR9 hbz hfar c0 s0 c1 s1
                  refine hK.out _ _ hs9 (fun hHeld => ?_)
                  clear hs9
                  clear hK K
                  refine rd1 9 (fun K hK => ?_)
                  have k0 := HBS.out.at_ k HKS.out
                  go_simp
                  refine hK.out _ _ hHeld (fun hHeld => ?_)
                  clear k0
                  clear hK K
                  refine tk 13 hHeld ?_
                  refine rd0 ?_
                  have q0 := HO2.out.at_ 0 rfl
                  have q1 := HO2.out.at_ 1 rfl
                  have q2 := HO2.out.at_ 2 rfl
                  have q3 := HO2.out.at_ 3 rfl
                  have q4 := HO2.out.at_ 4 rfl
                  have r0 := HO3.out.at_ 0 rfl
                  have r1 := HO3.out.at_ 1 rfl
                  have o0 := HO4.out.at_ 0 rfl
                  have o1 := HO4.out.at_ 1 rfl
                  clear hHeld
                  go_wp2
                  exact bodyPost_ret (v := .tuple #[.agg #[.slice xa P.length xc, .slice ya B.length yc, .slice za A.length zc, .int .i64 u, .int .i64 n], .agg #[.int .i64 x0, .int .i64 x1], .agg #[.int .i64 lm, .int .i64 sm], .int .i64 m]) (by simp [results, Tryd.results4, go_sem, q0, q1, q2, q3, q4, r0, r1, o0, o1]) rfl ⟨P, B, A, u, n, xa, xc, ya, yc, za, zc, x0, x1, lm, sm, m, rfl, HLEN.out, HRR.out.low (show w0.heap.size ≤ w1.heap.size by omega), HBB.out⟩
              · skip
                obtain ⟨Z, hZ, hf9, hR9, hbz, hfar⟩ := lab_put HO4.out HRR.out lm sm
                have c0 := HO4.out.at_ 0 rfl
                have c1 := HO4.out.at_ 1 rfl
                have s0 := HO4.out.soft 0
                have s1 := HO4.out.soft 1
                go_simp
                rw [← hZ]
                have HO4 := Lib.hid hf9
                have HRR := Lib.hid hR9
                have HBB := Lib.hid (HBB.out.trans (hbz.mono (by omega)))
                have HO2 := Lib.hid (hfar _ _ _ (by omega) HO2.out)
                have HO3 := Lib.hid (hfar _ _ _ (by omega) HO3.out)
                try have HBS := Lib.hid (hfar _ _ _ (by omega) HBS.out)
                have hs9 := (And.intro (hfar _ _ _ (by omega) hHeld.1) (hfar _ _ _ (by omega) hHeld.2))
                clear hZ hf9 hR9 hbz hfar c0 s0 c1 s1
                refine hK.out _ _ hs9 (fun hHeld => ?_)
                clear hs9
                clear hK K
                refine rd1 5 (fun K hK => ?_)
                obtain ⟨U, bs, hU, hbs, hXU, hbU, hbt⟩ := bs_new hHeld.1
                go_simp
                rw [← hU, ← hbs]
                have HO2 := Lib.hid (HO2.out.call hbU)
                have HO3 := Lib.hid (HO3.out.call hbU)
                have HO4 := Lib.hid (HO4.out.call hbU)
                have HRR := Lib.hid (HRR.out.call hbU)
                have HBB := Lib.hid (HBB.out.trans (hbU.mono HBB.out.size))
                try have HSS := Lib.hid (HSS.out.mono (hbU.mono HSS.out.lt))
                have HBS := Lib.hid hXU
                have hs9 : Blk U t7 25 #[.slice xa P.length xc, .slice ya B.length yc, .slice za A.length zc, .int .i64 u, .int .i64 n] ∧ Blk U bx 48 #[.int .i64 x0, .int .i64 x1, .int .i64 lm, .int .i64 sm, .int .i64 x4, .int .i64 x5] := ⟨hHeld.1.call hbU, hHeld.2.call hbU⟩
                clear hU hbs hXU hbU
                refine hK.out _ _ hs9 (fun hHeld => ?_)
                clear hs9
                clear hK K
                refine tk 8 hHeld ?_
                refine rd1 9 (fun K hK => ?_)
                have k0 := HBS.out.at_ k HKS.out
                go_simp
                refine hK.out _ _ hHeld (fun hHeld => ?_)
                clear k0
                clear hK K
                refine tk 13 hHeld ?_
                refine rd0 ?_
                have q0 := HO2.out.at_ 0 rfl
                have q1 := HO2.out.at_ 1 rfl
                have q2 := HO2.out.at_ 2 rfl
                have q3 := HO2.out.at_ 3 rfl
                have q4 := HO2.out.at_ 4 rfl
                have r0 := HO3.out.at_ 0 rfl
                have r1 := HO3.out.at_ 1 rfl
                have o0 := HO4.out.at_ 0 rfl
                have o1 := HO4.out.at_ 1 rfl
                clear hHeld
                go_wp2
                exact bodyPost_ret (v := .tuple #[.agg #[.slice xa P.length xc, .slice ya B.length yc, .slice za A.length zc, .int .i64 u, .int .i64 n], .agg #[.int .i64 x0, .int .i64 x1], .agg #[.int .i64 lm, .int .i64 sm], .int .i64 m]) (by simp [results, Tryd.results4, go_sem, q0, q1, q2, q3, q4, r0, r1, o0, o1]) rfl ⟨P, B, A, u, n, xa, xc, ya, yc, za, zc, x0, x1, lm, sm, m, rfl, HLEN.out, HRR.out.low (show w0.heap.size ≤ w1.heap.size by omega), HBB.out⟩
end Go.Proofs.YtphklknaagjmpaaDoor.DrawC
end
