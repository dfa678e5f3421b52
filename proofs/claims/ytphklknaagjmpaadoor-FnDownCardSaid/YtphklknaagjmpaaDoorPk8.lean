/- Of this claim's texts the part 8: DnL DnI DkW Lift DkV DkZ RegOf. -/
import Derived.LoopTactic
import Derived.BigQuiet
import Derived.Test.YtphklknaagjmpaaDoorRows
import Derived.ProofKit
import Derived.OpenShut
import Derived.Below
import Derived.Carry
import Derived.ChangeOld
import Derived.Lib.SmallJoins
import Derived.Test.YtphklknaagjmpaaDoorPk7
section
namespace Go.Proofs.YtphklknaagjmpaaDoor.RepC
open Go.RowKit RowC ValC SpanC KeptC
set_option linter.unusedVariables false
set_option linter.unusedSimpArgs false
theorem neq_letter_same (x0 x1 x2 x3 x4 x5 : Int) (w : World) : (binOp .neq 48 (.agg #[.int .i64 x0, .int .i64 x1, .int .i64 x2, .int .i64 x3, .int .i64 x4, .int .i64 x5]) (.agg #[.int .i64 x0, .int .i64 x1, .int .i64 x2, .int .i64 x3, .int .i64 x4, .int .i64 x5])).run Tryd.prog w = .ok (.bool false) w := by
  go_simp
set_option maxRecDepth 100000 in
set_option maxHeartbeats 1600000 in
theorem lwletters {L : List D_Letter} {a a' : Option Addr} {c c' : Nat} {W : World} (h : RdSl R_Letter W W.heap.size L a c) (h' : RdSl R_Letter W W.heap.size L a' c') :
    Calls Tryd.prog 17 #[.slice a L.length c, .slice a' L.length c'] W (IsB true W) := by
  have hn : L.length ≤ 9223372036854775807 := by have h1 := h.1; have h2 := h.2.1; unfold maxLen at h2; omega
  have H := Lib.hid h
  have H' := Lib.hid h'
  clear h h'
  go_enter Tryd.func17, Tryd.ntmps17
  go_wp2
  go_loopw [5] (fun i wr => ∃ k : Nat, k ≤ L.length ∧ i = .int .i64 k ∧ Below W.heap.size W wr) (fun i _ => L.length - (intOf i).toNat)
  case atStart => exact ⟨0, Nat.zero_le _, rfl, Below.refl _ _⟩
  case round =>
    obtain ⟨k, hk, rfl, hB⟩ := hrel
    have HB := Lib.hid hB
    have hsz := hB.size
    by_cases hlt : k < L.length
    · obtain ⟨⟨⟨x0, x1⟩, ⟨x2, x3⟩, x4, x5⟩, hx⟩ := el_some hlt
      obtain ⟨g, o, us, rfl, hg, hu, hr⟩ := (H.out.below R_Letter_ok hB).at_ hx
      obtain rfl := rd_Letter hr
      have e0 : wr.cell? ⟨g, o + k * 6, none⟩ = some (.int .i64 x0) := by simpa [size_LetterS, Nat.add_assoc] using hu 0 _ rfl
      have e1 : wr.cell? ⟨g, o + k * 6 + 1, none⟩ = some (.int .i64 x1) := by simpa [size_LetterS, Nat.add_assoc] using hu 1 _ rfl
      have e2 : wr.cell? ⟨g, o + k * 6 + 2, none⟩ = some (.int .i64 x2) := by simpa [size_LetterS, Nat.add_assoc] using hu 2 _ rfl
      have e3 : wr.cell? ⟨g, o + k * 6 + 3, none⟩ = some (.int .i64 x3) := by simpa [size_LetterS, Nat.add_assoc] using hu 3 _ rfl
      have e4 : wr.cell? ⟨g, o + k * 6 + 4, none⟩ = some (.int .i64 x4) := by simpa [size_LetterS, Nat.add_assoc] using hu 4 _ rfl
      have e5 : wr.cell? ⟨g, o + k * 6 + 5, none⟩ = some (.int .i64 x5) := by simpa [size_LetterS, Nat.add_assoc] using hu 5 _ rfl
      obtain ⟨g', o', us', rfl, hg', hu', hr'⟩ := (H'.out.below R_Letter_ok hB).at_ hx
      obtain rfl := rd_Letter hr'
      have d0 : wr.cell? ⟨g', o' + k * 6, none⟩ = some (.int .i64 x0) := by simpa [size_LetterS, Nat.add_assoc] using hu' 0 _ rfl
      have d1 : wr.cell? ⟨g', o' + k * 6 + 1, none⟩ = some (.int .i64 x1) := by simpa [size_LetterS, Nat.add_assoc] using hu' 1 _ rfl
      have d2 : wr.cell? ⟨g', o' + k * 6 + 2, none⟩ = some (.int .i64 x2) := by simpa [size_LetterS, Nat.add_assoc] using hu' 2 _ rfl
      have d3 : wr.cell? ⟨g', o' + k * 6 + 3, none⟩ = some (.int .i64 x3) := by simpa [size_LetterS, Nat.add_assoc] using hu' 3 _ rfl
      have d4 : wr.cell? ⟨g', o' + k * 6 + 4, none⟩ = some (.int .i64 x4) := by simpa [size_LetterS, Nat.add_assoc] using hu' 4 _ rfl
      have d5 : wr.cell? ⟨g', o' + k * 6 + 5, none⟩ = some (.int .i64 x5) := by simpa [size_LetterS, Nat.add_assoc] using hu' 5 _ rfl
      have hgl : g < wr.heap.size := Nat.lt_of_lt_of_le hg hsz
      have hgl' : g' < wr.heap.size := Nat.lt_of_lt_of_le hg' hsz
      have hi0 : (0 : Int) ≤ (k : Int) := Int.natCast_nonneg _
      have hi1 : (k : Int) < (L.length : Int) := by omega
      have hq := neq_letter_same x0 x1 x2 x3 x4 x5
      clear hB hx hu hr hu' hr'
      go_wp2_with fail
      refine wp_region_held_drew (S := (fun V => Below (wr).heap.size (wr) V)) (by kernel_rfl) ((Below.refl _ _).drew) (fun hHeld => ?_)
      refine tk 0 hHeld ?_
      refine tk 1 hHeld ?_
      refine tk 2 hHeld ?_
      refine tk 3 hHeld ?_ (hy := fun w hSw => by (try dsimp only at hSw); have k0 := (hSw.cell (p := ⟨g, o + k * 6, none⟩) hgl).trans e0; have k1 := (hSw.cell (p := ⟨g, o + k * 6 + 1, none⟩) hgl).trans e1; have k2 := (hSw.cell (p := ⟨g, o + k * 6 + 2, none⟩) hgl).trans e2; have k3 := (hSw.cell (p := ⟨g, o + k * 6 + 3, none⟩) hgl).trans e3; have k4 := (hSw.cell (p := ⟨g, o + k * 6 + 4, none⟩) hgl).trans e4; have k5 := (hSw.cell (p := ⟨g, o + k * 6 + 5, none⟩) hgl).trans e5; clear hSw; go_simp; try with_reducible rfl)
      refine tk 4 hHeld ?_
      refine tk 5 hHeld ?_
      refine tk 6 hHeld ?_
      refine tk 7 hHeld ?_ (hy := fun w hSw => by (try dsimp only at hSw); have k0 := (hSw.cell (p := ⟨g', o' + k * 6, none⟩) hgl').trans d0; have k1 := (hSw.cell (p := ⟨g', o' + k * 6 + 1, none⟩) hgl').trans d1; have k2 := (hSw.cell (p := ⟨g', o' + k * 6 + 2, none⟩) hgl').trans d2; have k3 := (hSw.cell (p := ⟨g', o' + k * 6 + 3, none⟩) hgl').trans d3; have k4 := (hSw.cell (p := ⟨g', o' + k * 6 + 4, none⟩) hgl').trans d4; have k5 := (hSw.cell (p := ⟨g', o' + k * 6 + 5, none⟩) hgl').trans d5; clear hSw; go_simp; try with_reducible rfl)
      refine tk 8 hHeld ?_
      refine rd0 ?_
      have HF := Lib.hid hHeld
      clear hHeld
      have HB2 := Lib.hid (HB.out.trans (HF.out.mono hsz))
      clear HF
      go_wp2
      go_roundw
      case rel => exact ⟨k + 1, by omega, by go_num, HB2.out⟩
      case measure => simp [intOf]; omega
    · obtain rfl : k = L.length := by omega
      have hd : decide ((L.length : Int) < (L.length : Int)) = false := decide_eq_false (by omega)
      clear hB
      go_wp2
      go_ret
      exact ⟨rfl, HB.out⟩
set_option maxRecDepth 100000 in
set_option maxHeartbeats 1600000 in
theorem lwnums {L : List Int} {a a' : Option Addr} {c c' : Nat} {W : World} (h : RdSl I W W.heap.size L a c) (h' : RdSl I W W.heap.size L a' c') :
    Calls Tryd.prog 12 #[.slice a L.length c, .slice a' L.length c'] W (IsB true W) := by
  have hn : L.length ≤ 9223372036854775807 := by have h1 := h.1; have h2 := h.2.1; unfold maxLen at h2; omega
  have H := Lib.hid h
  have H' := Lib.hid h'
  clear h h'
  go_enter Tryd.func12, Tryd.ntmps12
  go_wp2
  go_loopw [5] (fun i wr => ∃ k : Nat, k ≤ L.length ∧ i = .int .i64 k ∧ Below W.heap.size W wr) (fun i _ => L.length - (intOf i).toNat)
  case atStart => exact ⟨0, Nat.zero_le _, rfl, Below.refl _ _⟩
  case round =>
    obtain ⟨k, hk, rfl, hB⟩ := hrel
    have HB := Lib.hid hB
    have hsz := hB.size
    by_cases hlt : k < L.length
    · obtain ⟨x, hx⟩ := el_some hlt
      obtain ⟨g, o, us, rfl, hg, hu, hr⟩ := (H.out.below I_ok hB).at_ hx
      obtain rfl : us = [_] := hr
      have e0 : wr.cell? ⟨g, o + k, none⟩ = some (.int .i64 x) := by simpa [show I.size = 1 from rfl] using hu 0 _ rfl
      obtain ⟨g', o', us', rfl, hg', hu', hr'⟩ := (H'.out.below I_ok hB).at_ hx
      obtain rfl : us' = [_] := hr'
      have d0 : wr.cell? ⟨g', o' + k, none⟩ = some (.int .i64 x) := by simpa [show I.size = 1 from rfl] using hu' 0 _ rfl
      have hgl : g < wr.heap.size := Nat.lt_of_lt_of_le hg hsz
      have hgl' : g' < wr.heap.size := Nat.lt_of_lt_of_le hg' hsz
      have hi0 : (0 : Int) ≤ (k : Int) := Int.natCast_nonneg _
      have hi1 : (k : Int) < (L.length : Int) := by omega
      have hq : (x != x) = false := by simp
      clear hB hx hu hu'
      go_wp2_with fail
      refine wp_region_held_drew (S := (fun V => Below (wr).heap.size (wr) V)) (by kernel_rfl) ((Below.refl _ _).drew) (fun hHeld => ?_)
      refine tk 0 hHeld ?_
      refine tk 1 hHeld ?_
      refine tk 2 hHeld ?_
      refine tk 3 hHeld ?_ (hy := fun w hSw => by (try dsimp only at hSw); have k0 := (hSw.cell (p := ⟨g, o + k, none⟩) hgl).trans e0; clear hSw; go_simp; try with_reducible rfl)
      refine tk 4 hHeld ?_
      refine tk 5 hHeld ?_
      refine tk 6 hHeld ?_
      refine tk 7 hHeld ?_ (hy := fun w hSw => by (try dsimp only at hSw); have k0 := (hSw.cell (p := ⟨g', o' + k, none⟩) hgl').trans d0; clear hSw; go_simp; try with_reducible rfl)
      refine tk 8 hHeld ?_
      refine rd0 ?_
      have HF := Lib.hid hHeld
      clear hHeld
      have HB2 := Lib.hid (HB.out.trans (HF.out.mono hsz))
      clear HF
      go_wp2
      go_roundw
      case rel => exact ⟨k + 1, by omega, by go_num, HB2.out⟩
      case measure => simp [intOf]; omega
    · obtain rfl : k = L.length := by omega
      have hd : decide ((L.length : Int) < (L.length : Int)) = false := decide_eq_false (by omega)
      clear hB
      go_wp2
      go_ret
      exact ⟨rfl, HB.out⟩
end Go.Proofs.YtphklknaagjmpaaDoor.RepC
end
section
namespace Go.Proofs.YtphklknaagjmpaaDoor.RepC
open Go.RowKit RowC ValC SpanC KeptC
set_option linter.unusedVariables false
set_option linter.unusedSimpArgs false
set_option maxRecDepth 100000
theorem dk_new {w V : World} (h : Below w.heap.size w V) : ∃ (U : World) (b : Nat), U = V.alloc (.cells #[.slice none 0 0, .slice none 0 0, .slice none 0 0, .int .i64 0, .int .i64 0] 25) ∧ b = V.heap.size ∧ Below V.heap.size V U ∧ Blk U b 25 #[.slice none 0 0, .slice none 0 0, .slice none 0 0, .int .i64 0, .int .i64 0] ∧ w.heap.size ≤ b :=
  ⟨_, _, rfl, rfl, (Below.refl _ _).alloc (Nat.le_refl _) _, Blk.new _ _ _, h.size⟩
theorem dk_put {V : World} {o : Nat} (v0 v1 v2 v3 v4 : Value) (hO : Blk V o 25 #[.slice none 0 0, .slice none 0 0, .slice none 0 0, .int .i64 0, .int .i64 0]) :
    ∃ Z : World, Z = (((((V.setCell ⟨o, 0, none⟩ (v0)).setCell ⟨o, 1, none⟩ (v1)).setCell ⟨o, 2, none⟩ (v2)).setCell ⟨o, 3, none⟩ (v3)).setCell ⟨o, 4, none⟩ (v4)) ∧ Blk Z o 25 #[v0, v1, v2, v3, v4] ∧ Below o V Z ∧ ∀ k T cs, k ≠ o → Blk V k T cs → Blk Z k T cs :=
  ⟨_, rfl, ((((((hO.set 0 v0).set 1 v1).set 2 v2).set 3 v3).set 4 v4)).as rfl, ((((((Below.refl o V).setCell (p := ⟨o, 0, none⟩) (Nat.le_refl _) (v0)).setCell (p := ⟨o, 1, none⟩) (Nat.le_refl _) (v1)).setCell (p := ⟨o, 2, none⟩) (Nat.le_refl _) (v2)).setCell (p := ⟨o, 3, none⟩) (Nat.le_refl _) (v3)).setCell (p := ⟨o, 4, none⟩) (Nat.le_refl _) (v4)), fun k T cs hk h => (((((h.far hk _).far hk _).far hk _).far hk _).far hk _)⟩
set_option maxHeartbeats 4000000 in
theorem lwdesk {d : D_DeskStep} {us vs : List Value} {W : World} (h : R_DeskStep.rd W W.heap.size d us) (h' : R_DeskStep.rd W W.heap.size d vs) (hc : d.2 ≠ 0 ∨ boxB d.1 = true) :
    Calls Tryd.prog 9 #[.agg us.toArray, .agg vs.toArray] W (IsB true W) := by
  obtain ⟨⟨P, B, A, u, n⟩, z⟩ := d
  obtain ⟨a0, c0, a1, c1, a2, c2, rfl, k0, k1, k2⟩ := rd_DeskStep h
  obtain ⟨a0', c0', a1', c1', a2', c2', rfl, j0, j1, j2⟩ := rd_DeskStep h'
  have K0 := Lib.hid k0
  have K1 := Lib.hid k1
  have K2 := Lib.hid k2
  have J0 := Lib.hid j0
  have J1 := Lib.hid j1
  have J2 := Lib.hid j2
  have HC := Lib.hid (show z ≠ 0 ∨ boxB (P, B, A, u, n) = true from hc)
  clear h h' k0 k1 k2 j0 j1 j2 hc
  obtain ⟨W2, hW2⟩ : ∃ x, x = (W.alloc (.cells #[.slice a0 P.length c0, .slice a1 B.length c1, .slice a2 A.length c2, .int .i64 u, .int .i64 n, .int .i64 z] 31)).alloc (.cells #[.slice a0' P.length c0', .slice a1' B.length c1', .slice a2' A.length c2', .int .i64 u, .int .i64 n, .int .i64 z] 31) := ⟨_, rfl⟩
  have hb0 : Below W.heap.size W W2 := by rw [hW2]; exact ((Below.refl _ _).alloc (Nat.le_refl _) _).alloc (by simp) _
  have hP0 : Blk W2 W.heap.size 31 #[.slice a0 P.length c0, .slice a1 B.length c1, .slice a2 A.length c2, .int .i64 u, .int .i64 n, .int .i64 z] := by rw [hW2]; exact (Blk.new _ _ _).alloc _
  have hQ0 : Blk W2 (W.heap.size + 1) 31 #[.slice a0' P.length c0', .slice a1' B.length c1', .slice a2' A.length c2', .int .i64 u, .int .i64 n, .int .i64 z] := by
    have h9 := Blk.new (W.alloc (.cells #[.slice a0 P.length c0, .slice a1 B.length c1, .slice a2 A.length c2, .int .i64 u, .int .i64 n, .int .i64 z] 31)) 31 #[.slice a0' P.length c0', .slice a1' B.length c1', .slice a2' A.length c2', .int .i64 u, .int .i64 n, .int .i64 z]
    rw [World.size_alloc] at h9
    rw [hW2]; exact h9
  have HBB := Lib.hid hb0
  have HP := Lib.hid hP0
  have HQ := Lib.hid hQ0
  have hqz : W.heap.size + 1 < W2.heap.size := hQ0.lt
  clear hb0 hP0 hQ0
  go_enter Tryd.func9, Tryd.ntmps9
  go_upto_region 1 with fail
  rw [← hW2]
  clear hW2
  go_cut [5, 6] (fun s5 s6 wx => ∃ g5 g6 : Nat, s5 = .pointer (some ⟨g5, 0, none⟩) ∧ s6 = .pointer (some ⟨g6, 0, none⟩) ∧ Hid (Blk wx g5 25 #[.slice a0 P.length c0, .slice a1 B.length c1, .slice a2 A.length c2, .int .i64 u, .int .i64 n]) ∧ Hid (Blk wx g6 25 #[.slice a0' P.length c0', .slice a1' B.length c1', .slice a2' A.length c2', .int .i64 u, .int .i64 n]) ∧ Hid (Blk wx W.heap.size 31 #[.slice a0 P.length c0, .slice a1 B.length c1, .slice a2 A.length c2, .int .i64 u, .int .i64 n, .int .i64 z] ∧ Blk wx (W.heap.size + 1) 31 #[.slice a0' P.length c0', .slice a1' B.length c1', .slice a2' A.length c2', .int .i64 u, .int .i64 n, .int .i64 z]) ∧ Hid (Below W.heap.size W wx))
  case first =>
    refine wp_region_held_drew (S := (fun V => Blk V W.heap.size 31 #[.slice a0 P.length c0, .slice a1 B.length c1, .slice a2 A.length c2, .int .i64 u, .int .i64 n, .int .i64 z] ∧ Blk V (W.heap.size + 1) 31 #[.slice a0' P.length c0', .slice a1' B.length c1', .slice a2' A.length c2', .int .i64 u, .int .i64 n, .int .i64 z])) (by kernel_rfl) (⟨HP.out.call (Below.refl W2.heap.size W2).drew, HQ.out.call (Below.refl W2.heap.size W2).drew⟩) (fun hHeld => ?_)
    have HBB := Lib.hid (HBB.out.trans ((Below.refl W.heap.size W2).drew))
    obtain ⟨wd, hwd⟩ : ∃ x, x = W2.drew := ⟨_, rfl⟩
    rw [← hwd] at HBB hHeld ⊢
    clear hwd HP HQ
    refine tk 0 hHeld ?_
    refine tk 1 hHeld ?_ (hy := fun w hSw => by (try dsimp only at hSw); have k0 := hSw.1.at_ 0 rfl; have k1 := hSw.1.at_ 1 rfl; have k2 := hSw.1.at_ 2 rfl; have k3 := hSw.1.at_ 3 rfl; have k4 := hSw.1.at_ 4 rfl; clear hSw; go_simp; try with_reducible rfl)
    refine tk 2 hHeld ?_
    refine tk 3 hHeld ?_ (hy := fun w hSw => by (try dsimp only at hSw); have k0 := hSw.2.at_ 0 rfl; have k1 := hSw.2.at_ 1 rfl; have k2 := hSw.2.at_ 2 rfl; have k3 := hSw.2.at_ 3 rfl; have k4 := hSw.2.at_ 4 rfl; clear hSw; go_simp; try with_reducible rfl)
    refine rd2 4 5 (fun K hK => ?_) (fun K hK => ?_)
    · skip
      obtain ⟨U, g5, hU, hg, hbU, hXU, hn5⟩ := dk_new HBB.out
      have l5 : W.heap.size + 1 < g5 := hg ▸ hHeld.2.lt
      go_simp
      try have hne := Nat.ne_of_lt (hg ▸ HX6.out.lt)
      rw [← hU, ← hg]
      try have HX6 := Lib.hid (HX6.out.call hbU)
      have HX5 := Lib.hid hXU
      have HBB := Lib.hid (HBB.out.trans (hbU.mono HBB.out.size))
      have hs9 := And.intro (hHeld.1.call hbU) (hHeld.2.call hbU)
      clear hU hg hbU hXU
      refine hK.out _ _ hs9 (fun hHeld => ?_)
      clear hs9
      clear hK K
      refine rd1 5 (fun K hK => ?_)
      obtain ⟨U, g6, hU, hg, hbU, hXU, hn6⟩ := dk_new HBB.out
      have l6 : W.heap.size + 1 < g6 := hg ▸ hHeld.2.lt
      go_simp
      try have hne := Nat.ne_of_lt (hg ▸ HX5.out.lt)
      rw [← hU, ← hg]
      try have HX5 := Lib.hid (HX5.out.call hbU)
      have HX6 := Lib.hid hXU
      have HBB := Lib.hid (HBB.out.trans (hbU.mono HBB.out.size))
      have hs9 := And.intro (hHeld.1.call hbU) (hHeld.2.call hbU)
      clear hU hg hbU hXU
      refine hK.out _ _ hs9 (fun hHeld => ?_)
      clear hs9
      clear hK K
      refine rd1 6 (fun K hK => ?_)
      obtain ⟨Z, hZ, hXZ, hbz, hfar⟩ := dk_put (.slice a0 P.length c0) (.slice a1 B.length c1) (.slice a2 A.length c2) (.int .i64 u) (.int .i64 n) HX5.out
      have r0 := HX5.out.at_ 0 rfl
      have r1 := HX5.out.at_ 1 rfl
      have r2 := HX5.out.at_ 2 rfl
      have r3 := HX5.out.at_ 3 rfl
      have r4 := HX5.out.at_ 4 rfl
      have f0 := HX5.out.soft 0
      have f1 := HX5.out.soft 1
      have f2 := HX5.out.soft 2
      have f3 := HX5.out.soft 3
      have f4 := HX5.out.soft 4
      go_simp
      rw [← hZ]
      have HX5 := Lib.hid hXZ
      try have HX6 := Lib.hid (hfar _ _ _ (by first | exact hne | exact Ne.symm hne) HX6.out)
      have HBB := Lib.hid (HBB.out.trans (hbz.mono hn5))
      have hs9 := And.intro (hfar _ _ _ (by omega) hHeld.1) (hfar _ _ _ (by omega) hHeld.2)
      clear hZ hXZ hbz hfar r0 r1 r2 r3 r4 f0 f1 f2 f3 f4
      refine hK.out _ _ hs9 (fun hHeld => ?_)
      clear hs9
      clear hK K
      refine rd1 7 (fun K hK => ?_)
      obtain ⟨Z, hZ, hXZ, hbz, hfar⟩ := dk_put (.slice a0' P.length c0') (.slice a1' B.length c1') (.slice a2' A.length c2') (.int .i64 u) (.int .i64 n) HX6.out
      have r0 := HX6.out.at_ 0 rfl
      have r1 := HX6.out.at_ 1 rfl
      have r2 := HX6.out.at_ 2 rfl
      have r3 := HX6.out.at_ 3 rfl
      have r4 := HX6.out.at_ 4 rfl
      have f0 := HX6.out.soft 0
      have f1 := HX6.out.soft 1
      have f2 := HX6.out.soft 2
      have f3 := HX6.out.soft 3
      have f4 := HX6.out.soft 4
      go_simp
      rw [← hZ]
      have HX6 := Lib.hid hXZ
      try have HX5 := Lib.hid (hfar _ _ _ (by first | exact hne | exact Ne.symm hne) HX5.out)
      have HBB := Lib.hid (HBB.out.trans (hbz.mono hn6))
      have hs9 := And.intro (hfar _ _ _ (by omega) hHeld.1) (hfar _ _ _ (by omega) hHeld.2)
      clear hZ hXZ hbz hfar r0 r1 r2 r3 r4 f0 f1 f2 f3 f4
      refine hK.out _ _ hs9 (fun hHeld => ?_)
      clear hs9
      clear hK K
      refine rd0 ?_
      have HPQ := Lib.hid hHeld
      clear hHeld
      go_wp2_with fail
      go_meet
      exact ⟨_, _, rfl, rfl, HX5, HX6, HPQ, HBB⟩
    · skip
      obtain ⟨U, g6, hU, hg, hbU, hXU, hn6⟩ := dk_new HBB.out
      have l6 : W.heap.size + 1 < g6 := hg ▸ hHeld.2.lt
      go_simp
      try have hne := Nat.ne_of_lt (hg ▸ HX5.out.lt)
      rw [← hU, ← hg]
      try have HX5 := Lib.hid (HX5.out.call hbU)
      have HX6 := Lib.hid hXU
      have HBB := Lib.hid (HBB.out.trans (hbU.mono HBB.out.size))
      have hs9 := And.intro (hHeld.1.call hbU) (hHeld.2.call hbU)
      clear hU hg hbU hXU
      refine hK.out _ _ hs9 (fun hHeld => ?_)
      clear hs9
      clear hK K
      refine rd1 4 (fun K hK => ?_)
      obtain ⟨U, g5, hU, hg, hbU, hXU, hn5⟩ := dk_new HBB.out
      have l5 : W.heap.size + 1 < g5 := hg ▸ hHeld.2.lt
      go_simp
      try have hne := Nat.ne_of_lt (hg ▸ HX6.out.lt)
      rw [← hU, ← hg]
      try have HX6 := Lib.hid (HX6.out.call hbU)
      have HX5 := Lib.hid hXU
      have HBB := Lib.hid (HBB.out.trans (hbU.mono HBB.out.size))
      have hs9 := And.intro (hHeld.1.call hbU) (hHeld.2.call hbU)
      clear hU hg hbU hXU
      refine hK.out _ _ hs9 (fun hHeld => ?_)
      clear hs9
      clear hK K
      refine rd1 6 (fun K hK => ?_)
      obtain ⟨Z, hZ, hXZ, hbz, hfar⟩ := dk_put (.slice a0 P.length c0) (.slice a1 B.length c1) (.slice a2 A.length c2) (.int .i64 u) (.int .i64 n) HX5.out
      have r0 := HX5.out.at_ 0 rfl
      have r1 := HX5.out.at_ 1 rfl
      have r2 := HX5.out.at_ 2 rfl
      have r3 := HX5.out.at_ 3 rfl
      have r4 := HX5.out.at_ 4 rfl
      have f0 := HX5.out.soft 0
      have f1 := HX5.out.soft 1
      have f2 := HX5.out.soft 2
      have f3 := HX5.out.soft 3
      have f4 := HX5.out.soft 4
      go_simp
      rw [← hZ]
      have HX5 := Lib.hid hXZ
      try have HX6 := Lib.hid (hfar _ _ _ (by first | exact hne | exact Ne.symm hne) HX6.out)
      have HBB := Lib.hid (HBB.out.trans (hbz.mono hn5))
      have hs9 := And.intro (hfar _ _ _ (by omega) hHeld.1) (hfar _ _ _ (by omega) hHeld.2)
      clear hZ hXZ hbz hfar r0 r1 r2 r3 r4 f0 f1 f2 f3 f4
      refine hK.out _ _ hs9 (fun hHeld => ?_)
      clear hs9
      clear hK K
      refine rd1 7 (fun K hK => ?_)
      obtain ⟨Z, hZ, hXZ, hbz, hfar⟩ := dk_put (.slice a0' P.length c0') (.slice a1' B.length c1') (.slice a2' A.length c2') (.int .i64 u) (.int .i64 n) HX6.out
      have r0 := HX6.out.at_ 0 rfl
      have r1 := HX6.out.at_ 1 rfl
      have r2 := HX6.out.at_ 2 rfl
      have r3 := HX6.out.at_ 3 rfl
      have r4 := HX6.out.at_ 4 rfl
      have f0 := HX6.out.soft 0
      have f1 := HX6.out.soft 1
      have f2 := HX6.out.soft 2
      have f3 := HX6.out.soft 3
      have f4 := HX6.out.soft 4
      go_simp
      rw [← hZ]
      have HX6 := Lib.hid hXZ
      try have HX5 := Lib.hid (hfar _ _ _ (by first | exact hne | exact Ne.symm hne) HX5.out)
      have HBB := Lib.hid (HBB.out.trans (hbz.mono hn6))
      have hs9 := And.intro (hfar _ _ _ (by omega) hHeld.1) (hfar _ _ _ (by omega) hHeld.2)
      clear hZ hXZ hbz hfar r0 r1 r2 r3 r4 f0 f1 f2 f3 f4
      refine hK.out _ _ hs9 (fun hHeld => ?_)
      clear hs9
      clear hK K
      refine rd0 ?_
      have HPQ := Lib.hid hHeld
      clear hHeld
      go_wp2_with fail
      go_meet
      exact ⟨_, _, rfl, rfl, HX5, HX6, HPQ, HBB⟩
  case rest =>
    obtain ⟨g5, g6, rfl, rfl, HX5, HX6, HPQ, HBX⟩ := hcut
    rename World => w1
    have HP1 := Lib.hid HPQ.out.1
    have HQ1 := Lib.hid HPQ.out.2
    have hz := HBX.out.size
    clear HPQ HP HQ HBB hqz
    have q_HP1_5 := HP1.out.at_ 5 rfl
    have q_HQ1_5 := HQ1.out.at_ 5 rfl
    have q_HX5_0 := HX5.out.at_ 0 rfl
    have q_HX5_1 := HX5.out.at_ 1 rfl
    have q_HX5_2 := HX5.out.at_ 2 rfl
    have q_HX5_3 := HX5.out.at_ 3 rfl
    have q_HX5_4 := HX5.out.at_ 4 rfl
    have q_HX6_0 := HX6.out.at_ 0 rfl
    have q_HX6_1 := HX6.out.at_ 1 rfl
    have q_HX6_2 := HX6.out.at_ 2 rfl
    have q_HX6_3 := HX6.out.at_ 3 rfl
    have q_HX6_4 := HX6.out.at_ 4 rfl
    go_wp2_with fail
    refine (lwletters ((K0.out.below R_Letter_ok HBX.out).more R_Letter_ok HBX.out.size) ((J0.out.below R_Letter_ok HBX.out).more R_Letter_ok HBX.out.size)).mono ?_
    intro e w2 h
    obtain ⟨rfl, hb⟩ := isB_elim h
    clear q_HP1_5 q_HQ1_5 q_HX5_0 q_HX5_1 q_HX5_2 q_HX5_3 q_HX5_4 q_HX6_0 q_HX6_1 q_HX6_2 q_HX6_3 q_HX6_4
    have HP1 := Lib.hid (HP1.out.call hb)
    have HQ1 := Lib.hid (HQ1.out.call hb)
    have HX5 := Lib.hid (HX5.out.call hb)
    have HX6 := Lib.hid (HX6.out.call hb)
    have HBX := Lib.hid (HBX.out.trans (hb.mono HBX.out.size))
    clear h hb
    have q_HP1_5 := HP1.out.at_ 5 rfl
    have q_HQ1_5 := HQ1.out.at_ 5 rfl
    have q_HX5_1 := HX5.out.at_ 1 rfl
    have q_HX5_2 := HX5.out.at_ 2 rfl
    have q_HX5_3 := HX5.out.at_ 3 rfl
    have q_HX5_4 := HX5.out.at_ 4 rfl
    have q_HX6_1 := HX6.out.at_ 1 rfl
    have q_HX6_2 := HX6.out.at_ 2 rfl
    have q_HX6_3 := HX6.out.at_ 3 rfl
    have q_HX6_4 := HX6.out.at_ 4 rfl
    go_wp2_with fail
    refine (lwletters ((K1.out.below R_Letter_ok HBX.out).more R_Letter_ok HBX.out.size) ((J1.out.below R_Letter_ok HBX.out).more R_Letter_ok HBX.out.size)).mono ?_
    intro e w3 h
    obtain ⟨rfl, hb⟩ := isB_elim h
    clear q_HP1_5 q_HQ1_5 q_HX5_1 q_HX5_2 q_HX5_3 q_HX5_4 q_HX6_1 q_HX6_2 q_HX6_3 q_HX6_4
    have HP1 := Lib.hid (HP1.out.call hb)
    have HQ1 := Lib.hid (HQ1.out.call hb)
    have HX5 := Lib.hid (HX5.out.call hb)
    have HX6 := Lib.hid (HX6.out.call hb)
    have HBX := Lib.hid (HBX.out.trans (hb.mono HBX.out.size))
    clear h hb
    have q_HP1_5 := HP1.out.at_ 5 rfl
    have q_HQ1_5 := HQ1.out.at_ 5 rfl
    have q_HX5_2 := HX5.out.at_ 2 rfl
    have q_HX5_3 := HX5.out.at_ 3 rfl
    have q_HX5_4 := HX5.out.at_ 4 rfl
    have q_HX6_2 := HX6.out.at_ 2 rfl
    have q_HX6_3 := HX6.out.at_ 3 rfl
    have q_HX6_4 := HX6.out.at_ 4 rfl
    go_wp2_with fail
    refine (lwletters ((K2.out.below R_Letter_ok HBX.out).more R_Letter_ok HBX.out.size) ((J2.out.below R_Letter_ok HBX.out).more R_Letter_ok HBX.out.size)).mono ?_
    intro e w4 h
    obtain ⟨rfl, hb⟩ := isB_elim h
    clear q_HP1_5 q_HQ1_5 q_HX5_2 q_HX5_3 q_HX5_4 q_HX6_2 q_HX6_3 q_HX6_4
    have HP1 := Lib.hid (HP1.out.call hb)
    have HQ1 := Lib.hid (HQ1.out.call hb)
    have HX5 := Lib.hid (HX5.out.call hb)
    have HX6 := Lib.hid (HX6.out.call hb)
    have HBX := Lib.hid (HBX.out.trans (hb.mono HBX.out.size))
    clear h hb
    have q_HP1_5 := HP1.out.at_ 5 rfl
    have q_HQ1_5 := HQ1.out.at_ 5 rfl
    have q_HX5_0 := HX5.out.at_ 0 rfl
    have q_HX5_1 := HX5.out.at_ 1 rfl
    have q_HX5_2 := HX5.out.at_ 2 rfl
    have q_HX5_3 := HX5.out.at_ 3 rfl
    have q_HX5_4 := HX5.out.at_ 4 rfl
    have q_HX6_0 := HX6.out.at_ 0 rfl
    have q_HX6_1 := HX6.out.at_ 1 rfl
    have q_HX6_2 := HX6.out.at_ 2 rfl
    have q_HX6_3 := HX6.out.at_ 3 rfl
    have q_HX6_4 := HX6.out.at_ 4 rfl
    by_cases hz0 : z = 0
    · subst hz0
      have HC2 := Lib.hid (HC.out.resolve_left (fun h9 => h9 rfl))
      clear HC
      go_wp2_with fail
      refine (gbox_spec (mkrd_Desk ((K0.out.below R_Letter_ok HBX.out).more R_Letter_ok HBX.out.size) ((K1.out.below R_Letter_ok HBX.out).more R_Letter_ok HBX.out.size) ((K2.out.below R_Letter_ok HBX.out).more R_Letter_ok HBX.out.size))).mono ?_
      intro e w5 h
      obtain ⟨rfl, hb⟩ := isB_elim h
      rw [HC2.out]
      have HBX := Lib.hid (HBX.out.trans (hb.mono HBX.out.size))
      clear h hb
      go_wp2
      all_goals
        go_ret
        exact ⟨rfl, HBX.out⟩
    · have hq : (z != 0) = true := by simp [hz0]
      have hq2 : (z == 0) = false := by simp [hz0]
      go_wp2
      all_goals
        go_ret
        exact ⟨rfl, HBX.out⟩
end Go.Proofs.YtphklknaagjmpaaDoor.RepC
end
section
namespace Go.Proofs.YtphklknaagjmpaaDoor.RepC
open SenC IsC Go.RowKit RowC ValC SpanC KeptC
set_option linter.unusedVariables false
set_option linter.unusedSimpArgs false
set_option maxRecDepth 100000 in
set_option maxHeartbeats 8000000 in
theorem letdown_tup {P B A : List D_Letter} {pa ba aa : Option Addr} {pc bc ac : Nat} {u n : Int} {f0 f1 t0 t1 z : Int} {W : World} {a1 a2 a3 a4 : Addr} (h : Sent W a1 a2 a3 a4) (hP : RdSl R_Letter W W.heap.size P pa pc) (hB : RdSl R_Letter W W.heap.size B ba bc) (hA : RdSl R_Letter W W.heap.size A aa ac) : Calls Tryd.prog 24 #[.agg #[.slice pa P.length pc, .slice ba B.length bc, .slice aa A.length ac, .int .i64 u, .int .i64 n], .agg #[.int .i64 f0, .int .i64 f1], .agg #[.int .i64 t0, .int .i64 t1], .int .i64 z] W (TupR a1 a2 a3 a4 (letG (P, B, A, u, n) (f0, f1) (t0, t1) z) W) := by
  have hv1 := Nat.lt_succ_of_lt (Nat.lt_succ_of_lt (Nat.lt_succ_of_lt (World.block_lt_of_cell? W _ h.v1)))
  have hv2 := Nat.lt_succ_of_lt (Nat.lt_succ_of_lt (Nat.lt_succ_of_lt (World.block_lt_of_cell? W _ h.v2)))
  have hv3 := Nat.lt_succ_of_lt (Nat.lt_succ_of_lt (Nat.lt_succ_of_lt (World.block_lt_of_cell? W _ h.v3)))
  have hv4 := Nat.lt_succ_of_lt (Nat.lt_succ_of_lt (Nat.lt_succ_of_lt (World.block_lt_of_cell? W _ h.v4)))
  obtain ⟨hb0, hd0, hf0, ht0, hr0⟩ := bx4 W #[.slice pa P.length pc, .slice ba B.length bc, .slice aa A.length ac, .int .i64 u, .int .i64 n] #[.int .i64 f0, .int .i64 f1] #[.int .i64 t0, .int .i64 t1] #[.slice none 0 0, .slice none 0 0, .slice none 0 0, .int .i64 0, .int .i64 0] 25 27 27 25
  obtain ⟨w0, hw0⟩ : ∃ w, w = (((W.alloc (.cells #[.slice pa P.length pc, .slice ba B.length bc, .slice aa A.length ac, .int .i64 u, .int .i64 n] 25)).alloc (.cells #[.int .i64 f0, .int .i64 f1] 27)).alloc (.cells #[.int .i64 t0, .int .i64 t1] 27)).alloc (.cells #[.slice none 0 0, .slice none 0 0, .slice none 0 0, .int .i64 0, .int .i64 0] 25) := ⟨_, rfl⟩
  rw [← hw0] at hb0 hd0 hf0 ht0 hr0
  have HB := Lib.hid hb0
  have HR := Lib.hid hr0
  have HD := Lib.hid hd0
  have HF1 := Lib.hid hf0
  have HT1 := Lib.hid ht0
  have HS := Lib.hid (h.mv hb0)
  have HP0 := Lib.hid hP
  have HB0 := Lib.hid hB
  have HA0 := Lib.hid hA
  have HPw := Lib.hid (gmvS hP hb0)
  have HBw := Lib.hid (gmvS hB hb0)
  have HAw := Lib.hid (gmvS hA hb0)
  have hz0 := hb0.size
  clear hb0 hd0 hf0 ht0 hr0 hP hB hA h
  obtain ⟨q1, Q1⟩ := nameB (DeskR P B A u n)
  obtain ⟨q2, Q2⟩ : ∃ b, Hid (isB z 0 1000000 = b) := ⟨_, Lib.hid rfl⟩
  obtain ⟨q3, Q3⟩ := nameB (HasCh P (f0, f1) (t0, t1))
  go_enter Tryd.func24, Tryd.ntmps24
  go_wp2_with fail
  rw [← hw0]
  clear hw0
  refine ((box_impl HPw.out HBw.out HAw.out).mono (fun _ _ => resB_at Q1.out)).mono ?_
  rintro e w1 ⟨rfl, hb⟩
  have HB1 := Lib.hid (HB.out.trans (hb.mono hz0))
  have hz1 := HB1.out.size
  have HR := Lib.hid (HR.out.call hb)
  have HD := Lib.hid (HD.out.call hb)
  have HF1 := Lib.hid (HF1.out.call hb)
  have HT1 := Lib.hid (HT1.out.call hb)
  have HS := Lib.hid (HS.out.mv hb)
  replace HPw := Lib.hid (gmvS HPw.out hb)
  replace HBw := Lib.hid (gmvS HBw.out hb)
  replace HAw := Lib.hid (gmvS HAw.out hb)
  have d1_0 := HD.out.at_ 0 rfl
  have d1_1 := HD.out.at_ 1 rfl
  have d1_2 := HD.out.at_ 2 rfl
  have d1_3 := HD.out.at_ 3 rfl
  have d1_4 := HD.out.at_ 4 rfl
  have x1_0 := HF1.out.at_ 0 rfl
  have x1_1 := HF1.out.at_ 1 rfl
  have y1_0 := HT1.out.at_ 0 rfl
  have y1_1 := HT1.out.at_ 1 rfl
  clear hb
  cases q1 with
  | false =>
    have HG := Lib.hid (show letG (P, B, A, u, n) (f0, f1) (t0, t1) z = (zeroD, 1) from letG_no (fun h => by have := Q1.out.2 (boxB_iff.1 h.1); cases this))
    have v1 := HS.out.v1
    have HRd := Lib.hid (show Blk w1.drew (W.heap.size + 1 + 1 + 1) 25 #[.slice none 0 0, .slice none 0 0, .slice none 0 0, .int .i64 0, .int .i64 0] from HR.out)
    go_wp2_with fail
    refine wp_region_held_drew (S := (fun V => Below (W.heap.size + 1 + 1 + 1) w1 V)) (by kernel_rfl) ((Below.refl _ _).drew) (fun hHeld => ?_)
    obtain ⟨wd, hwd⟩ : ∃ w, w = w1.drew := ⟨_, rfl⟩
    rw [← hwd] at hHeld HRd
    rw [← hwd]
    clear hwd
    refine tk 0 hHeld ?_
    refine rd2 1 2 (fun K hK => ?_) (fun K hK => ?_)
    · skip
      have k0 := (hHeld.cell (p := ⟨0, 0, none⟩) hv1).trans v1
      go_simp
      refine hK.out _ _ hHeld (fun hHeld => ?_)
      clear k0
      clear hK K
      refine rd1 2 (fun K hK => ?_)
      have qHRd_0 := HRd.out.at_ 0 rfl
      have qHRd_1 := HRd.out.at_ 1 rfl
      have qHRd_2 := HRd.out.at_ 2 rfl
      have qHRd_3 := HRd.out.at_ 3 rfl
      have qHRd_4 := HRd.out.at_ 4 rfl
      have sHRd_0 := HRd.out.soft 0
      have sHRd_1 := HRd.out.soft 1
      have sHRd_2 := HRd.out.soft 2
      have sHRd_3 := HRd.out.soft 3
      have sHRd_4 := HRd.out.soft 4
      go_simp
      refine hK.out _ _ (((((hHeld.setCell (p := ⟨W.heap.size + 1 + 1 + 1, 0, none⟩) (Nat.le_refl _) (.slice none 0 0)).setCell (p := ⟨W.heap.size + 1 + 1 + 1, 1, none⟩) (Nat.le_refl _) (.slice none 0 0)).setCell (p := ⟨W.heap.size + 1 + 1 + 1, 2, none⟩) (Nat.le_refl _) (.slice none 0 0)).setCell (p := ⟨W.heap.size + 1 + 1 + 1, 3, none⟩) (Nat.le_refl _) (.int .i64 0)).setCell (p := ⟨W.heap.size + 1 + 1 + 1, 4, none⟩) (Nat.le_refl _) (.int .i64 0)) (fun hHeld => ?_)
      clear qHRd_0 sHRd_0 qHRd_1 sHRd_1 qHRd_2 sHRd_2 qHRd_3 sHRd_3 qHRd_4 sHRd_4
      clear hK K
      refine tk 3 hHeld ?_
      refine rd0 ?_
      have HF := Lib.hid hHeld
      clear hHeld
      have qHRd_0 := HRd.out.at_ 0 rfl
      have qHRd_1 := HRd.out.at_ 1 rfl
      have qHRd_2 := HRd.out.at_ 2 rfl
      have qHRd_3 := HRd.out.at_ 3 rfl
      have qHRd_4 := HRd.out.at_ 4 rfl
      go_wp2
      refine bodyPost_ret (v := .tuple #[.agg #[.slice none 0 0, .slice none 0 0, .slice none 0 0, .int .i64 0, .int .i64 0], .iface 109 (.pointer (some a1))]) (by simp [results, Tryd.results24, go_sem, *]) rfl ?_
      rw [HG.out]
      exact ⟨_, _, rfl, zero_ow, HB1.out.trans (HF.out.mono (by omega)), .inr ⟨rfl, .inl ⟨rfl, rfl⟩⟩⟩
    · skip
      have qHRd_0 := HRd.out.at_ 0 rfl
      have qHRd_1 := HRd.out.at_ 1 rfl
      have qHRd_2 := HRd.out.at_ 2 rfl
      have qHRd_3 := HRd.out.at_ 3 rfl
      have qHRd_4 := HRd.out.at_ 4 rfl
      have sHRd_0 := HRd.out.soft 0
      have sHRd_1 := HRd.out.soft 1
      have sHRd_2 := HRd.out.soft 2
      have sHRd_3 := HRd.out.soft 3
      have sHRd_4 := HRd.out.soft 4
      go_simp
      refine hK.out _ _ (((((hHeld.setCell (p := ⟨W.heap.size + 1 + 1 + 1, 0, none⟩) (Nat.le_refl _) (.slice none 0 0)).setCell (p := ⟨W.heap.size + 1 + 1 + 1, 1, none⟩) (Nat.le_refl _) (.slice none 0 0)).setCell (p := ⟨W.heap.size + 1 + 1 + 1, 2, none⟩) (Nat.le_refl _) (.slice none 0 0)).setCell (p := ⟨W.heap.size + 1 + 1 + 1, 3, none⟩) (Nat.le_refl _) (.int .i64 0)).setCell (p := ⟨W.heap.size + 1 + 1 + 1, 4, none⟩) (Nat.le_refl _) (.int .i64 0)) (fun hHeld => ?_)
      clear qHRd_0 sHRd_0 qHRd_1 sHRd_1 qHRd_2 sHRd_2 qHRd_3 sHRd_3 qHRd_4 sHRd_4
      clear hK K
      refine rd1 1 (fun K hK => ?_)
      have k0 := (hHeld.cell (p := ⟨0, 0, none⟩) hv1).trans v1
      go_simp
      refine hK.out _ _ hHeld (fun hHeld => ?_)
      clear k0
      clear hK K
      refine tk 3 hHeld ?_
      refine rd0 ?_
      have HF := Lib.hid hHeld
      clear hHeld
      have qHRd_0 := HRd.out.at_ 0 rfl
      have qHRd_1 := HRd.out.at_ 1 rfl
      have qHRd_2 := HRd.out.at_ 2 rfl
      have qHRd_3 := HRd.out.at_ 3 rfl
      have qHRd_4 := HRd.out.at_ 4 rfl
      go_wp2
      refine bodyPost_ret (v := .tuple #[.agg #[.slice none 0 0, .slice none 0 0, .slice none 0 0, .int .i64 0, .int .i64 0], .iface 109 (.pointer (some a1))]) (by simp [results, Tryd.results24, go_sem, *]) rfl ?_
      rw [HG.out]
      exact ⟨_, _, rfl, zero_ow, HB1.out.trans (HF.out.mono (by omega)), .inr ⟨rfl, .inl ⟨rfl, rfl⟩⟩⟩
  | true =>
    go_wp2_with fail
    refine (word_at z Q2.out _).mono ?_
    rintro e w2 ⟨rfl, hb⟩
    have HB2 := Lib.hid (HB1.out.trans (hb.mono hz1))
    have hz2 := HB2.out.size
    have HR := Lib.hid (HR.out.call hb)
    have HD := Lib.hid (HD.out.call hb)
    have HF1 := Lib.hid (HF1.out.call hb)
    have HT1 := Lib.hid (HT1.out.call hb)
    have HS := Lib.hid (HS.out.mv hb)
    replace HPw := Lib.hid (gmvS HPw.out hb)
    replace HBw := Lib.hid (gmvS HBw.out hb)
    replace HAw := Lib.hid (gmvS HAw.out hb)
    have d2_0 := HD.out.at_ 0 rfl
    have d2_1 := HD.out.at_ 1 rfl
    have d2_2 := HD.out.at_ 2 rfl
    have d2_3 := HD.out.at_ 3 rfl
    have d2_4 := HD.out.at_ 4 rfl
    have x2_0 := HF1.out.at_ 0 rfl
    have x2_1 := HF1.out.at_ 1 rfl
    have y2_0 := HT1.out.at_ 0 rfl
    have y2_1 := HT1.out.at_ 1 rfl
    clear hb
    cases q2 with
    | false =>
      have HG := Lib.hid (show letG (P, B, A, u, n) (f0, f1) (t0, t1) z = (zeroD, 1) from letG_no (fun h => by have h2 := h.2; rw [Q2.out] at h2; cases h2))
      have v1 := HS.out.v1
      have HRd := Lib.hid (show Blk w2.drew (W.heap.size + 1 + 1 + 1) 25 #[.slice none 0 0, .slice none 0 0, .slice none 0 0, .int .i64 0, .int .i64 0] from HR.out)
      go_wp2_with fail
      refine wp_region_held_drew (S := (fun V => Below (W.heap.size + 1 + 1 + 1) w2 V)) (by kernel_rfl) ((Below.refl _ _).drew) (fun hHeld => ?_)
      obtain ⟨wd, hwd⟩ : ∃ w, w = w2.drew := ⟨_, rfl⟩
      rw [← hwd] at hHeld HRd
      rw [← hwd]
      clear hwd
      refine tk 0 hHeld ?_
      refine rd2 1 2 (fun K hK => ?_) (fun K hK => ?_)
      · skip
        have k0 := (hHeld.cell (p := ⟨0, 0, none⟩) hv1).trans v1
        go_simp
        refine hK.out _ _ hHeld (fun hHeld => ?_)
        clear k0
        clear hK K
        refine rd1 2 (fun K hK => ?_)
        have qHRd_0 := HRd.out.at_ 0 rfl
        have qHRd_1 := HRd.out.at_ 1 rfl
        have qHRd_2 := HRd.out.at_ 2 rfl
        have qHRd_3 := HRd.out.at_ 3 rfl
        have qHRd_4 := HRd.out.at_ 4 rfl
        have sHRd_0 := HRd.out.soft 0
        have sHRd_1 := HRd.out.soft 1
        have sHRd_2 := HRd.out.soft 2
        have sHRd_3 := HRd.out.soft 3
        have sHRd_4 := HRd.out.soft 4
        go_simp
        refine hK.out _ _ (((((hHeld.setCell (p := ⟨W.heap.size + 1 + 1 + 1, 0, none⟩) (Nat.le_refl _) (.slice none 0 0)).setCell (p := ⟨W.heap.size + 1 + 1 + 1, 1, none⟩) (Nat.le_refl _) (.slice none 0 0)).setCell (p := ⟨W.heap.size + 1 + 1 + 1, 2, none⟩) (Nat.le_refl _) (.slice none 0 0)).setCell (p := ⟨W.heap.size + 1 + 1 + 1, 3, none⟩) (Nat.le_refl _) (.int .i64 0)).setCell (p := ⟨W.heap.size + 1 + 1 + 1, 4, none⟩) (Nat.le_refl _) (.int .i64 0)) (fun hHeld => ?_)
        clear qHRd_0 sHRd_0 qHRd_1 sHRd_1 qHRd_2 sHRd_2 qHRd_3 sHRd_3 qHRd_4 sHRd_4
        clear hK K
        refine tk 3 hHeld ?_
        refine rd0 ?_
        have HF := Lib.hid hHeld
        clear hHeld
        have qHRd_0 := HRd.out.at_ 0 rfl
        have qHRd_1 := HRd.out.at_ 1 rfl
        have qHRd_2 := HRd.out.at_ 2 rfl
        have qHRd_3 := HRd.out.at_ 3 rfl
        have qHRd_4 := HRd.out.at_ 4 rfl
        go_wp2
        refine bodyPost_ret (v := .tuple #[.agg #[.slice none 0 0, .slice none 0 0, .slice none 0 0, .int .i64 0, .int .i64 0], .iface 109 (.pointer (some a1))]) (by simp [results, Tryd.results24, go_sem, *]) rfl ?_
        rw [HG.out]
        exact ⟨_, _, rfl, zero_ow, HB2.out.trans (HF.out.mono (by omega)), .inr ⟨rfl, .inl ⟨rfl, rfl⟩⟩⟩
      · skip
        have qHRd_0 := HRd.out.at_ 0 rfl
        have qHRd_1 := HRd.out.at_ 1 rfl
        have qHRd_2 := HRd.out.at_ 2 rfl
        have qHRd_3 := HRd.out.at_ 3 rfl
        have qHRd_4 := HRd.out.at_ 4 rfl
        have sHRd_0 := HRd.out.soft 0
        have sHRd_1 := HRd.out.soft 1
        have sHRd_2 := HRd.out.soft 2
        have sHRd_3 := HRd.out.soft 3
        have sHRd_4 := HRd.out.soft 4
        go_simp
        refine hK.out _ _ (((((hHeld.setCell (p := ⟨W.heap.size + 1 + 1 + 1, 0, none⟩) (Nat.le_refl _) (.slice none 0 0)).setCell (p := ⟨W.heap.size + 1 + 1 + 1, 1, none⟩) (Nat.le_refl _) (.slice none 0 0)).setCell (p := ⟨W.heap.size + 1 + 1 + 1, 2, none⟩) (Nat.le_refl _) (.slice none 0 0)).setCell (p := ⟨W.heap.size + 1 + 1 + 1, 3, none⟩) (Nat.le_refl _) (.int .i64 0)).setCell (p := ⟨W.heap.size + 1 + 1 + 1, 4, none⟩) (Nat.le_refl _) (.int .i64 0)) (fun hHeld => ?_)
        clear qHRd_0 sHRd_0 qHRd_1 sHRd_1 qHRd_2 sHRd_2 qHRd_3 sHRd_3 qHRd_4 sHRd_4
        clear hK K
        refine rd1 1 (fun K hK => ?_)
        have k0 := (hHeld.cell (p := ⟨0, 0, none⟩) hv1).trans v1
        go_simp
        refine hK.out _ _ hHeld (fun hHeld => ?_)
        clear k0
        clear hK K
        refine tk 3 hHeld ?_
        refine rd0 ?_
        have HF := Lib.hid hHeld
        clear hHeld
        have qHRd_0 := HRd.out.at_ 0 rfl
        have qHRd_1 := HRd.out.at_ 1 rfl
        have qHRd_2 := HRd.out.at_ 2 rfl
        have qHRd_3 := HRd.out.at_ 3 rfl
        have qHRd_4 := HRd.out.at_ 4 rfl
        go_wp2
        refine bodyPost_ret (v := .tuple #[.agg #[.slice none 0 0, .slice none 0 0, .slice none 0 0, .int .i64 0, .int .i64 0], .iface 109 (.pointer (some a1))]) (by simp [results, Tryd.results24, go_sem, *]) rfl ?_
        rw [HG.out]
        exact ⟨_, _, rfl, zero_ow, HB2.out.trans (HF.out.mono (by omega)), .inr ⟨rfl, .inl ⟨rfl, rfl⟩⟩⟩
    | true =>
      have HY := Lib.hid (Q1.out.1 (by first | rfl | trivial))
      have hYP : boxB (P, B, A, u, n) = true ∧ isB z 0 1000000 = true := ⟨boxB_iff.2 HY.out, Q2.out⟩
      have HYP := Lib.hid hYP
      clear hYP
      have hP4 : P.length ≤ 4 := HY.out.1.1
      have hB6 : B.length ≤ 6 := by have := HY.out.2.2.1.1; omega
      have hA20 : A.length ≤ 20 := by have := HY.out.2.2.2.1.1; omega
      have hur := HY.out.2.2.2.2.1
      simp only [isB, Bool.and_eq_true, decide_eq_true_iff] at hur
      go_wp2_with fail
      refine (chan_impl hP4 HPw.out Q3.out).mono ?_
      rintro e w3 ⟨rfl, hb⟩
      have HB3 := Lib.hid (HB2.out.trans (hb.mono hz2))
      have hz3 := HB3.out.size
      have HR := Lib.hid (HR.out.call hb)
      have HD := Lib.hid (HD.out.call hb)
      have HF1 := Lib.hid (HF1.out.call hb)
      have HT1 := Lib.hid (HT1.out.call hb)
      have HS := Lib.hid (HS.out.mv hb)
      replace HPw := Lib.hid (gmvS HPw.out hb)
      replace HBw := Lib.hid (gmvS HBw.out hb)
      replace HAw := Lib.hid (gmvS HAw.out hb)
      have d3_0 := HD.out.at_ 0 rfl
      have d3_1 := HD.out.at_ 1 rfl
      have d3_2 := HD.out.at_ 2 rfl
      have d3_3 := HD.out.at_ 3 rfl
      have d3_4 := HD.out.at_ 4 rfl
      have x3_0 := HF1.out.at_ 0 rfl
      have x3_1 := HF1.out.at_ 1 rfl
      have y3_0 := HT1.out.at_ 0 rfl
      have y3_1 := HT1.out.at_ 1 rfl
      clear hb
      cases q3 with
      | false =>
        have HG := Lib.hid (show letG (P, B, A, u, n) (f0, f1) (t0, t1) z = (zeroD, 11) from letG_label HYP.out (fun h => by have := Q3.out.2 h; cases this))
        have v2 := HS.out.v2
        have HRd := Lib.hid (show Blk w3.drew (W.heap.size + 1 + 1 + 1) 25 #[.slice none 0 0, .slice none 0 0, .slice none 0 0, .int .i64 0, .int .i64 0] from HR.out)
        go_wp2_with fail
        refine wp_region_held_drew (S := (fun V => Below (W.heap.size + 1 + 1 + 1) w3 V)) (by kernel_rfl) ((Below.refl _ _).drew) (fun hHeld => ?_)
        obtain ⟨wd, hwd⟩ : ∃ w, w = w3.drew := ⟨_, rfl⟩
        rw [← hwd] at hHeld HRd
        rw [← hwd]
        clear hwd
        refine tk 0 hHeld ?_
        refine rd2 1 2 (fun K hK => ?_) (fun K hK => ?_)
        · skip
          have k0 := (hHeld.cell (p := ⟨1, 0, none⟩) hv2).trans v2
          go_simp
          refine hK.out _ _ hHeld (fun hHeld => ?_)
          clear k0
          clear hK K
          refine rd1 2 (fun K hK => ?_)
          have qHRd_0 := HRd.out.at_ 0 rfl
          have qHRd_1 := HRd.out.at_ 1 rfl
          have qHRd_2 := HRd.out.at_ 2 rfl
          have qHRd_3 := HRd.out.at_ 3 rfl
          have qHRd_4 := HRd.out.at_ 4 rfl
          have sHRd_0 := HRd.out.soft 0
          have sHRd_1 := HRd.out.soft 1
          have sHRd_2 := HRd.out.soft 2
          have sHRd_3 := HRd.out.soft 3
          have sHRd_4 := HRd.out.soft 4
          go_simp
          refine hK.out _ _ (((((hHeld.setCell (p := ⟨W.heap.size + 1 + 1 + 1, 0, none⟩) (Nat.le_refl _) (.slice none 0 0)).setCell (p := ⟨W.heap.size + 1 + 1 + 1, 1, none⟩) (Nat.le_refl _) (.slice none 0 0)).setCell (p := ⟨W.heap.size + 1 + 1 + 1, 2, none⟩) (Nat.le_refl _) (.slice none 0 0)).setCell (p := ⟨W.heap.size + 1 + 1 + 1, 3, none⟩) (Nat.le_refl _) (.int .i64 0)).setCell (p := ⟨W.heap.size + 1 + 1 + 1, 4, none⟩) (Nat.le_refl _) (.int .i64 0)) (fun hHeld => ?_)
          clear qHRd_0 sHRd_0 qHRd_1 sHRd_1 qHRd_2 sHRd_2 qHRd_3 sHRd_3 qHRd_4 sHRd_4
          clear hK K
          refine tk 3 hHeld ?_
          refine rd0 ?_
          have HF := Lib.hid hHeld
          clear hHeld
          have qHRd_0 := HRd.out.at_ 0 rfl
          have qHRd_1 := HRd.out.at_ 1 rfl
          have qHRd_2 := HRd.out.at_ 2 rfl
          have qHRd_3 := HRd.out.at_ 3 rfl
          have qHRd_4 := HRd.out.at_ 4 rfl
          go_wp2
          refine bodyPost_ret (v := .tuple #[.agg #[.slice none 0 0, .slice none 0 0, .slice none 0 0, .int .i64 0, .int .i64 0], .iface 109 (.pointer (some a2))]) (by simp [results, Tryd.results24, go_sem, *]) rfl ?_
          rw [HG.out]
          exact ⟨_, _, rfl, zero_ow, HB3.out.trans (HF.out.mono (by omega)), .inr ⟨rfl, .inr (.inl ⟨rfl, rfl⟩)⟩⟩
        · skip
          have qHRd_0 := HRd.out.at_ 0 rfl
          have qHRd_1 := HRd.out.at_ 1 rfl
          have qHRd_2 := HRd.out.at_ 2 rfl
          have qHRd_3 := HRd.out.at_ 3 rfl
          have qHRd_4 := HRd.out.at_ 4 rfl
          have sHRd_0 := HRd.out.soft 0
          have sHRd_1 := HRd.out.soft 1
          have sHRd_2 := HRd.out.soft 2
          have sHRd_3 := HRd.out.soft 3
          have sHRd_4 := HRd.out.soft 4
          go_simp
          refine hK.out _ _ (((((hHeld.setCell (p := ⟨W.heap.size + 1 + 1 + 1, 0, none⟩) (Nat.le_refl _) (.slice none 0 0)).setCell (p := ⟨W.heap.size + 1 + 1 + 1, 1, none⟩) (Nat.le_refl _) (.slice none 0 0)).setCell (p := ⟨W.heap.size + 1 + 1 + 1, 2, none⟩) (Nat.le_refl _) (.slice none 0 0)).setCell (p := ⟨W.heap.size + 1 + 1 + 1, 3, none⟩) (Nat.le_refl _) (.int .i64 0)).setCell (p := ⟨W.heap.size + 1 + 1 + 1, 4, none⟩) (Nat.le_refl _) (.int .i64 0)) (fun hHeld => ?_)
          clear qHRd_0 sHRd_0 qHRd_1 sHRd_1 qHRd_2 sHRd_2 qHRd_3 sHRd_3 qHRd_4 sHRd_4
          clear hK K
          refine rd1 1 (fun K hK => ?_)
          have k0 := (hHeld.cell (p := ⟨1, 0, none⟩) hv2).trans v2
          go_simp
          refine hK.out _ _ hHeld (fun hHeld => ?_)
          clear k0
          clear hK K
          refine tk 3 hHeld ?_
          refine rd0 ?_
          have HF := Lib.hid hHeld
          clear hHeld
          have qHRd_0 := HRd.out.at_ 0 rfl
          have qHRd_1 := HRd.out.at_ 1 rfl
          have qHRd_2 := HRd.out.at_ 2 rfl
          have qHRd_3 := HRd.out.at_ 3 rfl
          have qHRd_4 := HRd.out.at_ 4 rfl
          go_wp2
          refine bodyPost_ret (v := .tuple #[.agg #[.slice none 0 0, .slice none 0 0, .slice none 0 0, .int .i64 0, .int .i64 0], .iface 109 (.pointer (some a2))]) (by simp [results, Tryd.results24, go_sem, *]) rfl ?_
          rw [HG.out]
          exact ⟨_, _, rfl, zero_ow, HB3.out.trans (HF.out.mono (by omega)), .inr ⟨rfl, .inr (.inl ⟨rfl, rfl⟩)⟩⟩
      | true =>
        have HC := Lib.hid (Q3.out.1 (by first | rfl | trivial))
        by_cases hu : u = 2
        · have hbe : (u == 2) = true := beq_iff_eq.2 hu
          have HG := Lib.hid (show letG (P, B, A, u, n) (f0, f1) (t0, t1) z = (zeroD, 8) from letG_range HYP.out HC.out hu)
          have v3 := HS.out.v3
          have HRd := Lib.hid (show Blk w3.drew (W.heap.size + 1 + 1 + 1) 25 #[.slice none 0 0, .slice none 0 0, .slice none 0 0, .int .i64 0, .int .i64 0] from HR.out)
          go_wp2_with fail
          refine wp_region_held_drew (S := (fun V => Below (W.heap.size + 1 + 1 + 1) w3 V)) (by kernel_rfl) ((Below.refl _ _).drew) (fun hHeld => ?_)
          obtain ⟨wd, hwd⟩ : ∃ w, w = w3.drew := ⟨_, rfl⟩
          rw [← hwd] at hHeld HRd
          rw [← hwd]
          clear hwd
          refine tk 0 hHeld ?_
          refine rd2 1 2 (fun K hK => ?_) (fun K hK => ?_)
          · skip
            have k0 := (hHeld.cell (p := ⟨2, 0, none⟩) hv3).trans v3
            go_simp
            refine hK.out _ _ hHeld (fun hHeld => ?_)
            clear k0
            clear hK K
            refine rd1 2 (fun K hK => ?_)
            have qHRd_0 := HRd.out.at_ 0 rfl
            have qHRd_1 := HRd.out.at_ 1 rfl
            have qHRd_2 := HRd.out.at_ 2 rfl
            have qHRd_3 := HRd.out.at_ 3 rfl
            have qHRd_4 := HRd.out.at_ 4 rfl
            have sHRd_0 := HRd.out.soft 0
            have sHRd_1 := HRd.out.soft 1
            have sHRd_2 := HRd.out.soft 2
            have sHRd_3 := HRd.out.soft 3
            have sHRd_4 := HRd.out.soft 4
            go_simp
            refine hK.out _ _ (((((hHeld.setCell (p := ⟨W.heap.size + 1 + 1 + 1, 0, none⟩) (Nat.le_refl _) (.slice none 0 0)).setCell (p := ⟨W.heap.size + 1 + 1 + 1, 1, none⟩) (Nat.le_refl _) (.slice none 0 0)).setCell (p := ⟨W.heap.size + 1 + 1 + 1, 2, none⟩) (Nat.le_refl _) (.slice none 0 0)).setCell (p := ⟨W.heap.size + 1 + 1 + 1, 3, none⟩) (Nat.le_refl _) (.int .i64 0)).setCell (p := ⟨W.heap.size + 1 + 1 + 1, 4, none⟩) (Nat.le_refl _) (.int .i64 0)) (fun hHeld => ?_)
            clear qHRd_0 sHRd_0 qHRd_1 sHRd_1 qHRd_2 sHRd_2 qHRd_3 sHRd_3 qHRd_4 sHRd_4
            clear hK K
            refine tk 3 hHeld ?_
            refine rd0 ?_
            have HF := Lib.hid hHeld
            clear hHeld
            have qHRd_0 := HRd.out.at_ 0 rfl
            have qHRd_1 := HRd.out.at_ 1 rfl
            have qHRd_2 := HRd.out.at_ 2 rfl
            have qHRd_3 := HRd.out.at_ 3 rfl
            have qHRd_4 := HRd.out.at_ 4 rfl
            go_wp2
            refine bodyPost_ret (v := .tuple #[.agg #[.slice none 0 0, .slice none 0 0, .slice none 0 0, .int .i64 0, .int .i64 0], .iface 109 (.pointer (some a3))]) (by simp [results, Tryd.results24, go_sem, *]) rfl ?_
            rw [HG.out]
            exact ⟨_, _, rfl, zero_ow, HB3.out.trans (HF.out.mono (by omega)), .inr ⟨rfl, .inr (.inr (.inl ⟨rfl, rfl⟩))⟩⟩
          · skip
            have qHRd_0 := HRd.out.at_ 0 rfl
            have qHRd_1 := HRd.out.at_ 1 rfl
            have qHRd_2 := HRd.out.at_ 2 rfl
            have qHRd_3 := HRd.out.at_ 3 rfl
            have qHRd_4 := HRd.out.at_ 4 rfl
            have sHRd_0 := HRd.out.soft 0
            have sHRd_1 := HRd.out.soft 1
            have sHRd_2 := HRd.out.soft 2
            have sHRd_3 := HRd.out.soft 3
            have sHRd_4 := HRd.out.soft 4
            go_simp
            refine hK.out _ _ (((((hHeld.setCell (p := ⟨W.heap.size + 1 + 1 + 1, 0, none⟩) (Nat.le_refl _) (.slice none 0 0)).setCell (p := ⟨W.heap.size + 1 + 1 + 1, 1, none⟩) (Nat.le_refl _) (.slice none 0 0)).setCell (p := ⟨W.heap.size + 1 + 1 + 1, 2, none⟩) (Nat.le_refl _) (.slice none 0 0)).setCell (p := ⟨W.heap.size + 1 + 1 + 1, 3, none⟩) (Nat.le_refl _) (.int .i64 0)).setCell (p := ⟨W.heap.size + 1 + 1 + 1, 4, none⟩) (Nat.le_refl _) (.int .i64 0)) (fun hHeld => ?_)
            clear qHRd_0 sHRd_0 qHRd_1 sHRd_1 qHRd_2 sHRd_2 qHRd_3 sHRd_3 qHRd_4 sHRd_4
            clear hK K
            refine rd1 1 (fun K hK => ?_)
            have k0 := (hHeld.cell (p := ⟨2, 0, none⟩) hv3).trans v3
            go_simp
            refine hK.out _ _ hHeld (fun hHeld => ?_)
            clear k0
            clear hK K
            refine tk 3 hHeld ?_
            refine rd0 ?_
            have HF := Lib.hid hHeld
            clear hHeld
            have qHRd_0 := HRd.out.at_ 0 rfl
            have qHRd_1 := HRd.out.at_ 1 rfl
            have qHRd_2 := HRd.out.at_ 2 rfl
            have qHRd_3 := HRd.out.at_ 3 rfl
            have qHRd_4 := HRd.out.at_ 4 rfl
            go_wp2
            refine bodyPost_ret (v := .tuple #[.agg #[.slice none 0 0, .slice none 0 0, .slice none 0 0, .int .i64 0, .int .i64 0], .iface 109 (.pointer (some a3))]) (by simp [results, Tryd.results24, go_sem, *]) rfl ?_
            rw [HG.out]
            exact ⟨_, _, rfl, zero_ow, HB3.out.trans (HF.out.mono (by omega)), .inr ⟨rfl, .inr (.inr (.inl ⟨rfl, rfl⟩))⟩⟩
        have hbe : (u == 2) = false := by simpa using hu
        have HU := Lib.hid hu
        clear hu
        by_cases h6 : B.length = 6
        · have hb6 : ((B.length : Int) == 6) = true := beq_iff_eq.2 (by omega)
          have HG := Lib.hid (show letG (P, B, A, u, n) (f0, f1) (t0, t1) z = (zeroD, 9) from letG_full HYP.out HC.out HU.out (.inl h6))
          have v4 := HS.out.v4
          have HRd := Lib.hid (show Blk w3.drew (W.heap.size + 1 + 1 + 1) 25 #[.slice none 0 0, .slice none 0 0, .slice none 0 0, .int .i64 0, .int .i64 0] from HR.out)
          go_wp2_with fail
          refine wp_region_held_drew (S := (fun V => Below (W.heap.size + 1 + 1 + 1) w3 V)) (by kernel_rfl) ((Below.refl _ _).drew) (fun hHeld => ?_)
          obtain ⟨wd, hwd⟩ : ∃ w, w = w3.drew := ⟨_, rfl⟩
          rw [← hwd] at hHeld HRd
          rw [← hwd]
          clear hwd
          refine tk 0 hHeld ?_
          refine rd2 1 2 (fun K hK => ?_) (fun K hK => ?_)
          · skip
            have k0 := (hHeld.cell (p := ⟨3, 0, none⟩) hv4).trans v4
            go_simp
            refine hK.out _ _ hHeld (fun hHeld => ?_)
            clear k0
            clear hK K
            refine rd1 2 (fun K hK => ?_)
            have qHRd_0 := HRd.out.at_ 0 rfl
            have qHRd_1 := HRd.out.at_ 1 rfl
            have qHRd_2 := HRd.out.at_ 2 rfl
            have qHRd_3 := HRd.out.at_ 3 rfl
            have qHRd_4 := HRd.out.at_ 4 rfl
            have sHRd_0 := HRd.out.soft 0
            have sHRd_1 := HRd.out.soft 1
            have sHRd_2 := HRd.out.soft 2
            have sHRd_3 := HRd.out.soft 3
            have sHRd_4 := HRd.out.soft 4
            go_simp
            refine hK.out _ _ (((((hHeld.setCell (p := ⟨W.heap.size + 1 + 1 + 1, 0, none⟩) (Nat.le_refl _) (.slice none 0 0)).setCell (p := ⟨W.heap.size + 1 + 1 + 1, 1, none⟩) (Nat.le_refl _) (.slice none 0 0)).setCell (p := ⟨W.heap.size + 1 + 1 + 1, 2, none⟩) (Nat.le_refl _) (.slice none 0 0)).setCell (p := ⟨W.heap.size + 1 + 1 + 1, 3, none⟩) (Nat.le_refl _) (.int .i64 0)).setCell (p := ⟨W.heap.size + 1 + 1 + 1, 4, none⟩) (Nat.le_refl _) (.int .i64 0)) (fun hHeld => ?_)
            clear qHRd_0 sHRd_0 qHRd_1 sHRd_1 qHRd_2 sHRd_2 qHRd_3 sHRd_3 qHRd_4 sHRd_4
            clear hK K
            refine tk 3 hHeld ?_
            refine rd0 ?_
            have HF := Lib.hid hHeld
            clear hHeld
            have qHRd_0 := HRd.out.at_ 0 rfl
            have qHRd_1 := HRd.out.at_ 1 rfl
            have qHRd_2 := HRd.out.at_ 2 rfl
            have qHRd_3 := HRd.out.at_ 3 rfl
            have qHRd_4 := HRd.out.at_ 4 rfl
            go_wp2
            refine bodyPost_ret (v := .tuple #[.agg #[.slice none 0 0, .slice none 0 0, .slice none 0 0, .int .i64 0, .int .i64 0], .iface 109 (.pointer (some a4))]) (by simp [results, Tryd.results24, go_sem, *]) rfl ?_
            rw [HG.out]
            exact ⟨_, _, rfl, zero_ow, HB3.out.trans (HF.out.mono (by omega)), .inr ⟨rfl, .inr (.inr (.inr ⟨rfl, rfl⟩))⟩⟩
          · skip
            have qHRd_0 := HRd.out.at_ 0 rfl
            have qHRd_1 := HRd.out.at_ 1 rfl
            have qHRd_2 := HRd.out.at_ 2 rfl
            have qHRd_3 := HRd.out.at_ 3 rfl
            have qHRd_4 := HRd.out.at_ 4 rfl
            have sHRd_0 := HRd.out.soft 0
            have sHRd_1 := HRd.out.soft 1
            have sHRd_2 := HRd.out.soft 2
            have sHRd_3 := HRd.out.soft 3
            have sHRd_4 := HRd.out.soft 4
            go_simp
            refine hK.out _ _ (((((hHeld.setCell (p := ⟨W.heap.size + 1 + 1 + 1, 0, none⟩) (Nat.le_refl _) (.slice none 0 0)).setCell (p := ⟨W.heap.size + 1 + 1 + 1, 1, none⟩) (Nat.le_refl _) (.slice none 0 0)).setCell (p := ⟨W.heap.size + 1 + 1 + 1, 2, none⟩) (Nat.le_refl _) (.slice none 0 0)).setCell (p := ⟨W.heap.size + 1 + 1 + 1, 3, none⟩) (Nat.le_refl _) (.int .i64 0)).setCell (p := ⟨W.heap.size + 1 + 1 + 1, 4, none⟩) (Nat.le_refl _) (.int .i64 0)) (fun hHeld => ?_)
            clear qHRd_0 sHRd_0 qHRd_1 sHRd_1 qHRd_2 sHRd_2 qHRd_3 sHRd_3 qHRd_4 sHRd_4
            clear hK K
            refine rd1 1 (fun K hK => ?_)
            have k0 := (hHeld.cell (p := ⟨3, 0, none⟩) hv4).trans v4
            go_simp
            refine hK.out _ _ hHeld (fun hHeld => ?_)
            clear k0
            clear hK K
            refine tk 3 hHeld ?_
            refine rd0 ?_
            have HF := Lib.hid hHeld
            clear hHeld
            have qHRd_0 := HRd.out.at_ 0 rfl
            have qHRd_1 := HRd.out.at_ 1 rfl
            have qHRd_2 := HRd.out.at_ 2 rfl
            have qHRd_3 := HRd.out.at_ 3 rfl
            have qHRd_4 := HRd.out.at_ 4 rfl
            go_wp2
            refine bodyPost_ret (v := .tuple #[.agg #[.slice none 0 0, .slice none 0 0, .slice none 0 0, .int .i64 0, .int .i64 0], .iface 109 (.pointer (some a4))]) (by simp [results, Tryd.results24, go_sem, *]) rfl ?_
            rw [HG.out]
            exact ⟨_, _, rfl, zero_ow, HB3.out.trans (HF.out.mono (by omega)), .inr ⟨rfl, .inr (.inr (.inr ⟨rfl, rfl⟩))⟩⟩
        have hb6 : ((B.length : Int) == 6) = false := by rw [beq_eq_false_iff_ne]; omega
        by_cases h20 : A.length = 20
        · have hb20 : ((A.length : Int) == 20) = true := beq_iff_eq.2 (by omega)
          have HG := Lib.hid (show letG (P, B, A, u, n) (f0, f1) (t0, t1) z = (zeroD, 9) from letG_full HYP.out HC.out HU.out (.inr h20))
          have v4 := HS.out.v4
          have HRd := Lib.hid (show Blk w3.drew (W.heap.size + 1 + 1 + 1) 25 #[.slice none 0 0, .slice none 0 0, .slice none 0 0, .int .i64 0, .int .i64 0] from HR.out)
          go_wp2_with fail
          refine wp_region_held_drew (S := (fun V => Below (W.heap.size + 1 + 1 + 1) w3 V)) (by kernel_rfl) ((Below.refl _ _).drew) (fun hHeld => ?_)
          obtain ⟨wd, hwd⟩ : ∃ w, w = w3.drew := ⟨_, rfl⟩
          rw [← hwd] at hHeld HRd
          rw [← hwd]
          clear hwd
          refine tk 0 hHeld ?_
          refine rd2 1 2 (fun K hK => ?_) (fun K hK => ?_)
          · skip
            have k0 := (hHeld.cell (p := ⟨3, 0, none⟩) hv4).trans v4
            go_simp
            refine hK.out _ _ hHeld (fun hHeld => ?_)
            clear k0
            clear hK K
            refine rd1 2 (fun K hK => ?_)
            have qHRd_0 := HRd.out.at_ 0 rfl
            have qHRd_1 := HRd.out.at_ 1 rfl
            have qHRd_2 := HRd.out.at_ 2 rfl
            have qHRd_3 := HRd.out.at_ 3 rfl
            have qHRd_4 := HRd.out.at_ 4 rfl
            have sHRd_0 := HRd.out.soft 0
            have sHRd_1 := HRd.out.soft 1
            have sHRd_2 := HRd.out.soft 2
            have sHRd_3 := HRd.out.soft 3
            have sHRd_4 := HRd.out.soft 4
            go_simp
            refine hK.out _ _ (((((hHeld.setCell (p := ⟨W.heap.size + 1 + 1 + 1, 0, none⟩) (Nat.le_refl _) (.slice none 0 0)).setCell (p := ⟨W.heap.size + 1 + 1 + 1, 1, none⟩) (Nat.le_refl _) (.slice none 0 0)).setCell (p := ⟨W.heap.size + 1 + 1 + 1, 2, none⟩) (Nat.le_refl _) (.slice none 0 0)).setCell (p := ⟨W.heap.size + 1 + 1 + 1, 3, none⟩) (Nat.le_refl _) (.int .i64 0)).setCell (p := ⟨W.heap.size + 1 + 1 + 1, 4, none⟩) (Nat.le_refl _) (.int .i64 0)) (fun hHeld => ?_)
            clear qHRd_0 sHRd_0 qHRd_1 sHRd_1 qHRd_2 sHRd_2 qHRd_3 sHRd_3 qHRd_4 sHRd_4
            clear hK K
            refine tk 3 hHeld ?_
            refine rd0 ?_
            have HF := Lib.hid hHeld
            clear hHeld
            have qHRd_0 := HRd.out.at_ 0 rfl
            have qHRd_1 := HRd.out.at_ 1 rfl
            have qHRd_2 := HRd.out.at_ 2 rfl
            have qHRd_3 := HRd.out.at_ 3 rfl
            have qHRd_4 := HRd.out.at_ 4 rfl
            go_wp2
            refine bodyPost_ret (v := .tuple #[.agg #[.slice none 0 0, .slice none 0 0, .slice none 0 0, .int .i64 0, .int .i64 0], .iface 109 (.pointer (some a4))]) (by simp [results, Tryd.results24, go_sem, *]) rfl ?_
            rw [HG.out]
            exact ⟨_, _, rfl, zero_ow, HB3.out.trans (HF.out.mono (by omega)), .inr ⟨rfl, .inr (.inr (.inr ⟨rfl, rfl⟩))⟩⟩
          · skip
            have qHRd_0 := HRd.out.at_ 0 rfl
            have qHRd_1 := HRd.out.at_ 1 rfl
            have qHRd_2 := HRd.out.at_ 2 rfl
            have qHRd_3 := HRd.out.at_ 3 rfl
            have qHRd_4 := HRd.out.at_ 4 rfl
            have sHRd_0 := HRd.out.soft 0
            have sHRd_1 := HRd.out.soft 1
            have sHRd_2 := HRd.out.soft 2
            have sHRd_3 := HRd.out.soft 3
            have sHRd_4 := HRd.out.soft 4
            go_simp
            refine hK.out _ _ (((((hHeld.setCell (p := ⟨W.heap.size + 1 + 1 + 1, 0, none⟩) (Nat.le_refl _) (.slice none 0 0)).setCell (p := ⟨W.heap.size + 1 + 1 + 1, 1, none⟩) (Nat.le_refl _) (.slice none 0 0)).setCell (p := ⟨W.heap.size + 1 + 1 + 1, 2, none⟩) (Nat.le_refl _) (.slice none 0 0)).setCell (p := ⟨W.heap.size + 1 + 1 + 1, 3, none⟩) (Nat.le_refl _) (.int .i64 0)).setCell (p := ⟨W.heap.size + 1 + 1 + 1, 4, none⟩) (Nat.le_refl _) (.int .i64 0)) (fun hHeld => ?_)
            clear qHRd_0 sHRd_0 qHRd_1 sHRd_1 qHRd_2 sHRd_2 qHRd_3 sHRd_3 qHRd_4 sHRd_4
            clear hK K
            refine rd1 1 (fun K hK => ?_)
            have k0 := (hHeld.cell (p := ⟨3, 0, none⟩) hv4).trans v4
            go_simp
            refine hK.out _ _ hHeld (fun hHeld => ?_)
            clear k0
            clear hK K
            refine tk 3 hHeld ?_
            refine rd0 ?_
            have HF := Lib.hid hHeld
            clear hHeld
            have qHRd_0 := HRd.out.at_ 0 rfl
            have qHRd_1 := HRd.out.at_ 1 rfl
            have qHRd_2 := HRd.out.at_ 2 rfl
            have qHRd_3 := HRd.out.at_ 3 rfl
            have qHRd_4 := HRd.out.at_ 4 rfl
            go_wp2
            refine bodyPost_ret (v := .tuple #[.agg #[.slice none 0 0, .slice none 0 0, .slice none 0 0, .int .i64 0, .int .i64 0], .iface 109 (.pointer (some a4))]) (by simp [results, Tryd.results24, go_sem, *]) rfl ?_
            rw [HG.out]
            exact ⟨_, _, rfl, zero_ow, HB3.out.trans (HF.out.mono (by omega)), .inr ⟨rfl, .inr (.inr (.inr ⟨rfl, rfl⟩))⟩⟩
        have hb20 : ((A.length : Int) == 20) = false := by rw [beq_eq_false_iff_ne]; omega
        have HG := Lib.hid (show letG (P, B, A, u, n) (f0, f1) (t0, t1) z = ((P, B ++ [((f0, f1), (t0, t1), n, z)], A ++ [((f0, f1), (t0, t1), n, z)], u + 1, n), 0) from letG_ok HYP.out HC.out HU.out h6 h20)
        have hwr : IntKind.i64.wrap (u + 1) = u + 1 := IntWalk.i64_in _ (by omega)
        clear h6 h20
        have HRL := Lib.hid HR.out.lt
        have hbx : Below w3.heap.size w3 (w3.alloc (.cells #[.int .i64 f0, .int .i64 f1, .int .i64 t0, .int .i64 t1, .int .i64 n, .int .i64 z] 48)) := (Below.refl _ _).alloc (Nat.le_refl _) _
        have HX := Lib.hid (Blk.new w3 48 #[.int .i64 f0, .int .i64 f1, .int .i64 t0, .int .i64 t1, .int .i64 n, .int .i64 z])
        obtain ⟨wz, hwz⟩ : ∃ w, w = w3.alloc (.cells #[.int .i64 f0, .int .i64 f1, .int .i64 t0, .int .i64 t1, .int .i64 n, .int .i64 z] 48) := ⟨_, rfl⟩
        rw [← hwz] at hbx HX
        have HBz := Lib.hid (HB3.out.trans (hbx.mono hz3))
        have hzz := HBz.out.size
        have HD := Lib.hid (HD.out.call hbx)
        have HR := Lib.hid (HR.out.call hbx)
        have hgx : w3.heap.size < wz.heap.size := HX.out.lt
        have hgx : w3.heap.size < wz.heap.size := HX.out.lt
        have hR3 : W.heap.size + 1 + 1 + 1 < w3.heap.size := HRL.out
        have hgz : W.heap.size + 1 + 1 + 1 < wz.heap.size := Nat.lt_trans hR3 hgx
        clear hbx
        go_wp2_with fail
        rw [← hwz]
        clear hwz
        refine wp_region_held_drew (S := (fun V => But2 wz V (W.heap.size + 1 + 1 + 1))) (by kernel_rfl) (But2.of ((Below.refl _ _).drew)) (fun hHeld => ?_)
        obtain ⟨wd, hwd⟩ : ∃ w, w = wz.drew := ⟨_, rfl⟩
        have HRd := Lib.hid (show Blk wz.drew (W.heap.size + 1 + 1 + 1) 25 #[.slice none 0 0, .slice none 0 0, .slice none 0 0, .int .i64 0, .int .i64 0] from HR.out)
        rw [← hwd] at hHeld HRd
        rw [← hwd]
        clear hwd
        refine tk 0 hHeld ?_
        refine tk 1 hHeld ?_ (hy := fun w hSw => by (try dsimp only at hSw); have k0 := hSw.cell (Nat.lt_of_lt_of_le (Nat.lt_succ_of_lt (Nat.lt_succ_of_lt (Nat.lt_succ_self _))) (Nat.le_of_lt hgz)) (by omega) (HD.out.at_ 0 rfl); have k1 := hSw.cell (Nat.lt_of_lt_of_le (Nat.lt_succ_of_lt (Nat.lt_succ_of_lt (Nat.lt_succ_self _))) (Nat.le_of_lt hgz)) (by omega) (HD.out.at_ 1 rfl); have k2 := hSw.cell (Nat.lt_of_lt_of_le (Nat.lt_succ_of_lt (Nat.lt_succ_of_lt (Nat.lt_succ_self _))) (Nat.le_of_lt hgz)) (by omega) (HD.out.at_ 2 rfl); have k3 := hSw.cell (Nat.lt_of_lt_of_le (Nat.lt_succ_of_lt (Nat.lt_succ_of_lt (Nat.lt_succ_self _))) (Nat.le_of_lt hgz)) (by omega) (HD.out.at_ 3 rfl); have k4 := hSw.cell (Nat.lt_of_lt_of_le (Nat.lt_succ_of_lt (Nat.lt_succ_of_lt (Nat.lt_succ_self _))) (Nat.le_of_lt hgz)) (by omega) (HD.out.at_ 4 rfl); clear hSw; go_simp; try with_reducible rfl)
        refine tk 3 hHeld ?_
        refine tk 4 hHeld ?_ (hy := fun w hSw => by (try dsimp only at hSw); have k0 := hSw.cell (Nat.lt_of_lt_of_le (Nat.lt_succ_of_lt (Nat.lt_succ_of_lt (Nat.lt_succ_self _))) (Nat.le_of_lt hgz)) (by omega) (HD.out.at_ 0 rfl); have k1 := hSw.cell (Nat.lt_of_lt_of_le (Nat.lt_succ_of_lt (Nat.lt_succ_of_lt (Nat.lt_succ_self _))) (Nat.le_of_lt hgz)) (by omega) (HD.out.at_ 1 rfl); have k2 := hSw.cell (Nat.lt_of_lt_of_le (Nat.lt_succ_of_lt (Nat.lt_succ_of_lt (Nat.lt_succ_self _))) (Nat.le_of_lt hgz)) (by omega) (HD.out.at_ 2 rfl); have k3 := hSw.cell (Nat.lt_of_lt_of_le (Nat.lt_succ_of_lt (Nat.lt_succ_of_lt (Nat.lt_succ_self _))) (Nat.le_of_lt hgz)) (by omega) (HD.out.at_ 3 rfl); have k4 := hSw.cell (Nat.lt_of_lt_of_le (Nat.lt_succ_of_lt (Nat.lt_succ_of_lt (Nat.lt_succ_self _))) (Nat.le_of_lt hgz)) (by omega) (HD.out.at_ 4 rfl); clear hSw; go_simp; try with_reducible rfl)
        refine tk 5 hHeld ?_ (hy := fun w hSw => by (try dsimp only at hSw); have k0 := hSw.cell hgx (by omega) (HX.out.at_ 0 rfl); have k1 := hSw.cell hgx (by omega) (HX.out.at_ 1 rfl); have k2 := hSw.cell hgx (by omega) (HX.out.at_ 2 rfl); have k3 := hSw.cell hgx (by omega) (HX.out.at_ 3 rfl); have k4 := hSw.cell hgx (by omega) (HX.out.at_ 4 rfl); have k5 := hSw.cell hgx (by omega) (HX.out.at_ 5 rfl); clear hSw; go_simp; try with_reducible rfl)
        refine tk 8 hHeld ?_
        refine tk 9 hHeld ?_ (hy := fun w hSw => by (try dsimp only at hSw); have k0 := hSw.cell (Nat.lt_of_lt_of_le (Nat.lt_succ_of_lt (Nat.lt_succ_of_lt (Nat.lt_succ_self _))) (Nat.le_of_lt hgz)) (by omega) (HD.out.at_ 0 rfl); have k1 := hSw.cell (Nat.lt_of_lt_of_le (Nat.lt_succ_of_lt (Nat.lt_succ_of_lt (Nat.lt_succ_self _))) (Nat.le_of_lt hgz)) (by omega) (HD.out.at_ 1 rfl); have k2 := hSw.cell (Nat.lt_of_lt_of_le (Nat.lt_succ_of_lt (Nat.lt_succ_of_lt (Nat.lt_succ_self _))) (Nat.le_of_lt hgz)) (by omega) (HD.out.at_ 2 rfl); have k3 := hSw.cell (Nat.lt_of_lt_of_le (Nat.lt_succ_of_lt (Nat.lt_succ_of_lt (Nat.lt_succ_self _))) (Nat.le_of_lt hgz)) (by omega) (HD.out.at_ 3 rfl); have k4 := hSw.cell (Nat.lt_of_lt_of_le (Nat.lt_succ_of_lt (Nat.lt_succ_of_lt (Nat.lt_succ_self _))) (Nat.le_of_lt hgz)) (by omega) (HD.out.at_ 4 rfl); clear hSw; go_simp; try with_reducible rfl)
        refine tk 10 hHeld ?_ (hy := fun w hSw => by (try dsimp only at hSw); have k0 := hSw.cell hgx (by omega) (HX.out.at_ 0 rfl); have k1 := hSw.cell hgx (by omega) (HX.out.at_ 1 rfl); have k2 := hSw.cell hgx (by omega) (HX.out.at_ 2 rfl); have k3 := hSw.cell hgx (by omega) (HX.out.at_ 3 rfl); have k4 := hSw.cell hgx (by omega) (HX.out.at_ 4 rfl); have k5 := hSw.cell hgx (by omega) (HX.out.at_ 5 rfl); clear hSw; go_simp; try with_reducible rfl)
        refine tk 13 hHeld ?_
        refine tk 14 hHeld ?_ (hy := fun w hSw => by (try dsimp only at hSw); have k0 := hSw.cell (Nat.lt_of_lt_of_le (Nat.lt_succ_of_lt (Nat.lt_succ_of_lt (Nat.lt_succ_self _))) (Nat.le_of_lt hgz)) (by omega) (HD.out.at_ 0 rfl); have k1 := hSw.cell (Nat.lt_of_lt_of_le (Nat.lt_succ_of_lt (Nat.lt_succ_of_lt (Nat.lt_succ_self _))) (Nat.le_of_lt hgz)) (by omega) (HD.out.at_ 1 rfl); have k2 := hSw.cell (Nat.lt_of_lt_of_le (Nat.lt_succ_of_lt (Nat.lt_succ_of_lt (Nat.lt_succ_self _))) (Nat.le_of_lt hgz)) (by omega) (HD.out.at_ 2 rfl); have k3 := hSw.cell (Nat.lt_of_lt_of_le (Nat.lt_succ_of_lt (Nat.lt_succ_of_lt (Nat.lt_succ_self _))) (Nat.le_of_lt hgz)) (by omega) (HD.out.at_ 3 rfl); have k4 := hSw.cell (Nat.lt_of_lt_of_le (Nat.lt_succ_of_lt (Nat.lt_succ_of_lt (Nat.lt_succ_self _))) (Nat.le_of_lt hgz)) (by omega) (HD.out.at_ 4 rfl); clear hSw; go_simp; try with_reducible rfl)
        refine tk 15 hHeld ?_
        refine tk 16 hHeld ?_
        refine tk 17 hHeld ?_ (hy := fun w hSw => by (try dsimp only at hSw); have k0 := hSw.cell (Nat.lt_of_lt_of_le (Nat.lt_succ_of_lt (Nat.lt_succ_of_lt (Nat.lt_succ_self _))) (Nat.le_of_lt hgz)) (by omega) (HD.out.at_ 0 rfl); have k1 := hSw.cell (Nat.lt_of_lt_of_le (Nat.lt_succ_of_lt (Nat.lt_succ_of_lt (Nat.lt_succ_self _))) (Nat.le_of_lt hgz)) (by omega) (HD.out.at_ 1 rfl); have k2 := hSw.cell (Nat.lt_of_lt_of_le (Nat.lt_succ_of_lt (Nat.lt_succ_of_lt (Nat.lt_succ_self _))) (Nat.le_of_lt hgz)) (by omega) (HD.out.at_ 2 rfl); have k3 := hSw.cell (Nat.lt_of_lt_of_le (Nat.lt_succ_of_lt (Nat.lt_succ_of_lt (Nat.lt_succ_self _))) (Nat.le_of_lt hgz)) (by omega) (HD.out.at_ 3 rfl); have k4 := hSw.cell (Nat.lt_of_lt_of_le (Nat.lt_succ_of_lt (Nat.lt_succ_of_lt (Nat.lt_succ_self _))) (Nat.le_of_lt hgz)) (by omega) (HD.out.at_ 4 rfl); clear hSw; go_simp; try with_reducible rfl)
        refine rd3 2 6 11 (fun K hK => ?_) (fun K hK => ?_) (fun K hK => ?_)
        · skip
          go_simp
          go_at_call 44
          refine (letters1_impl (by omega) ((HP0.out.below R_Letter_ok (HBz.out.trans (hHeld.2.2 W.heap.size (by omega) hzz))).more R_Letter_ok (HBz.out.trans (hHeld.2.2 W.heap.size (by omega) hzz)).size)).mono ?_
          intro e u1 h
          obtain ⟨xa, xc, rfl, ho, hb⟩ := newS_elim h
          have HRd := Lib.hid (HRd.out.call hb)
          have HO0 := Lib.hid ho
          have HM0 := Lib.hid (Nat.le_refl u1.heap.size)
          have HE0 := Lib.hid hb.size
          have HGA := Lib.hid (show W.heap.size + 1 + 1 + 1 < wd.heap.size from Nat.lt_of_lt_of_le hgz hHeld.1)
          clear h ho
          have HML0 := Lib.hid (Nat.le_refl u1.heap.size)
          refine hK.out _ _ (hHeld.trans (But2.of hb)) (fun hHeld => ?_)
          clear hb
          clear hK K
          refine rd2 6 11 (fun K hK => ?_) (fun K hK => ?_)
          · skip
            go_simp
            have hb : Below u1.heap.size u1 (u1.alloc (.cells #[.int .i64 f0, .int .i64 f1, .int .i64 t0, .int .i64 t1, .int .i64 n, .int .i64 z] 48)) := (Below.refl _ _).alloc (Nat.le_refl _) _
            have HK0 := Lib.hid (Blk.new u1 48 #[.int .i64 f0, .int .i64 f1, .int .i64 t0, .int .i64 t1, .int .i64 n, .int .i64 z])
            obtain ⟨u2, hw⟩ : ∃ w', w' = u1.alloc (.cells #[.int .i64 f0, .int .i64 f1, .int .i64 t0, .int .i64 t1, .int .i64 n, .int .i64 z] 48) := ⟨_, rfl⟩
            rw [← hw] at hb HK0
            have HRd := Lib.hid (HRd.out.call hb)
            have HO0 := Lib.hid (OwSl.keep R_Letter_ok HO0.out fun k hk => hb.block k (by have := HM0.out; unfold Rg at hk; omega))
            have HM0 := Lib.hid (Nat.le_trans HM0.out hb.size)
            rw [← hw]
            clear hw
            have HML0 := Lib.hid (Nat.le_trans HML0.out hb.size)
            refine hK.out _ _ (hHeld.trans (But2.of hb)) (fun hHeld => ?_)
            clear hb
            clear hK K
            refine rd2 7 11 (fun K hK => ?_) (fun K hK => ?_)
            · skip
              go_simp
              go_at_call 44
              refine (letters2_impl (M := [((f0, f1), (t0, t1), n, z)]) (by simp only [List.length_singleton]; omega) ((HB0.out.below R_Letter_ok (HBz.out.trans (hHeld.2.2 W.heap.size (by omega) hzz))).more R_Letter_ok (HBz.out.trans (hHeld.2.2 W.heap.size (by omega) hzz)).size) (rd_one f0 f1 t0 t1 n z HK0.out)).mono ?_
              intro e u3 h
              obtain ⟨ya, yc, rfl, ho, hb⟩ := newS_elim h
              have HRd := Lib.hid (HRd.out.call hb)
              have HK0 := Lib.hid (HK0.out.call hb)
              have HO0 := Lib.hid (OwSl.keep R_Letter_ok HO0.out fun k hk => hb.block k (by have := HM0.out; unfold Rg at hk; omega))
              have HM0 := Lib.hid (Nat.le_trans HM0.out hb.size)
              have HO1 := Lib.hid ho
              have HM1 := Lib.hid (Nat.le_refl u3.heap.size)
              have HE1 := Lib.hid hb.size
              have HL01 := HML0
              clear h ho
              have HML1 := Lib.hid (Nat.le_refl u3.heap.size)
              refine hK.out _ _ (hHeld.trans (But2.of hb)) (fun hHeld => ?_)
              clear hb
              clear hK K
              refine rd1 11 (fun K hK => ?_)
              go_simp
              have hb : Below u3.heap.size u3 (u3.alloc (.cells #[.int .i64 f0, .int .i64 f1, .int .i64 t0, .int .i64 t1, .int .i64 n, .int .i64 z] 48)) := (Below.refl _ _).alloc (Nat.le_refl _) _
              have HK1 := Lib.hid (Blk.new u3 48 #[.int .i64 f0, .int .i64 f1, .int .i64 t0, .int .i64 t1, .int .i64 n, .int .i64 z])
              obtain ⟨u4, hw⟩ : ∃ w', w' = u3.alloc (.cells #[.int .i64 f0, .int .i64 f1, .int .i64 t0, .int .i64 t1, .int .i64 n, .int .i64 z] 48) := ⟨_, rfl⟩
              rw [← hw] at hb HK1
              have HRd := Lib.hid (HRd.out.call hb)
              have HK0 := Lib.hid (HK0.out.call hb)
              have HO0 := Lib.hid (OwSl.keep R_Letter_ok HO0.out fun k hk => hb.block k (by have := HM0.out; unfold Rg at hk; omega))
              have HM0 := Lib.hid (Nat.le_trans HM0.out hb.size)
              have HO1 := Lib.hid (OwSl.keep R_Letter_ok HO1.out fun k hk => hb.block k (by have := HM1.out; unfold Rg at hk; omega))
              have HM1 := Lib.hid (Nat.le_trans HM1.out hb.size)
              rw [← hw]
              clear hw
              have HML1 := Lib.hid (Nat.le_trans HML1.out hb.size)
              refine hK.out _ _ (hHeld.trans (But2.of hb)) (fun hHeld => ?_)
              clear hb
              clear hK K
              refine rd1 12 (fun K hK => ?_)
              go_simp
              go_at_call 44
              refine (letters2_impl (M := [((f0, f1), (t0, t1), n, z)]) (by simp only [List.length_singleton]; omega) ((HA0.out.below R_Letter_ok (HBz.out.trans (hHeld.2.2 W.heap.size (by omega) hzz))).more R_Letter_ok (HBz.out.trans (hHeld.2.2 W.heap.size (by omega) hzz)).size) (rd_one f0 f1 t0 t1 n z HK1.out)).mono ?_
              intro e u5 h
              obtain ⟨za, zc, rfl, ho, hb⟩ := newS_elim h
              have HRd := Lib.hid (HRd.out.call hb)
              have HK0 := Lib.hid (HK0.out.call hb)
              have HK1 := Lib.hid (HK1.out.call hb)
              have HO0 := Lib.hid (OwSl.keep R_Letter_ok HO0.out fun k hk => hb.block k (by have := HM0.out; unfold Rg at hk; omega))
              have HM0 := Lib.hid (Nat.le_trans HM0.out hb.size)
              have HO1 := Lib.hid (OwSl.keep R_Letter_ok HO1.out fun k hk => hb.block k (by have := HM1.out; unfold Rg at hk; omega))
              have HM1 := Lib.hid (Nat.le_trans HM1.out hb.size)
              have HO2 := Lib.hid ho
              have HM2 := Lib.hid (Nat.le_refl u5.heap.size)
              have HE2 := Lib.hid hb.size
              have HL12 := HML1
              have HE12 := HM1
              have HE02 := HM0
              clear h ho
              have HML2 := Lib.hid (Nat.le_refl u5.heap.size)
              refine hK.out _ _ (hHeld.trans (But2.of hb)) (fun hHeld => ?_)
              clear hb
              clear hK K
              refine tk 18 hHeld ?_
              refine rd1 19 (fun K hK => ?_)
              have qHRd_0 := HRd.out.at_ 0 rfl
              have qHRd_1 := HRd.out.at_ 1 rfl
              have qHRd_2 := HRd.out.at_ 2 rfl
              have qHRd_3 := HRd.out.at_ 3 rfl
              have qHRd_4 := HRd.out.at_ 4 rfl
              have sHRd_0 := HRd.out.soft 0
              have sHRd_1 := HRd.out.soft 1
              have sHRd_2 := HRd.out.soft 2
              have sHRd_3 := HRd.out.soft 3
              have sHRd_4 := HRd.out.soft 4
              go_simp
              refine hK.out _ _ (hHeld.trans (But2.off ((((((Off.refl (fun x => x = W.heap.size + 1 + 1 + 1) u5).setCell (p := ⟨W.heap.size + 1 + 1 + 1, 0, none⟩) (rfl) (.slice xa P.length xc)).setCell (p := ⟨W.heap.size + 1 + 1 + 1, 1, none⟩) (rfl) (.slice ya (B.length + 1) yc)).setCell (p := ⟨W.heap.size + 1 + 1 + 1, 2, none⟩) (rfl) (.slice za (A.length + 1) zc)).setCell (p := ⟨W.heap.size + 1 + 1 + 1, 3, none⟩) (rfl) (.int .i64 (u + 1))).setCell (p := ⟨W.heap.size + 1 + 1 + 1, 4, none⟩) (rfl) (.int .i64 n)))) (fun hHeld => ?_)
              clear qHRd_0 sHRd_0 qHRd_1 sHRd_1 qHRd_2 sHRd_2 qHRd_3 sHRd_3 qHRd_4 sHRd_4
              clear hK K
              refine tk 20 hHeld ?_
              refine rd0 ?_
              have qHRd_0 := HRd.out.at_ 0 rfl
              have qHRd_1 := HRd.out.at_ 1 rfl
              have qHRd_2 := HRd.out.at_ 2 rfl
              have qHRd_3 := HRd.out.at_ 3 rfl
              have qHRd_4 := HRd.out.at_ 4 rfl
              go_wp2
              refine bodyPost_ret (v := .tuple #[.agg #[.slice xa P.length xc, .slice ya (B.length + 1) yc, .slice za (A.length + 1) zc, .int .i64 (u + 1), .int .i64 n], .nilIface]) (by simp [results, Tryd.results24, go_sem, *]) rfl ?_
              rw [HG.out]
              have hoff := ((((((Off.refl (fun x => x = W.heap.size + 1 + 1 + 1) u5).setCell (p := ⟨W.heap.size + 1 + 1 + 1, 0, none⟩) (rfl) (.slice xa P.length xc)).setCell (p := ⟨W.heap.size + 1 + 1 + 1, 1, none⟩) (rfl) (.slice ya (B.length + 1) yc)).setCell (p := ⟨W.heap.size + 1 + 1 + 1, 2, none⟩) (rfl) (.slice za (A.length + 1) zc)).setCell (p := ⟨W.heap.size + 1 + 1 + 1, 3, none⟩) (rfl) (.int .i64 (u + 1))).setCell (p := ⟨W.heap.size + 1 + 1 + 1, 4, none⟩) (rfl) (.int .i64 n))
              have hbf := HBz.out.trans (hHeld.2.2 W.heap.size (by omega) hzz)
              exact ⟨_, _, rfl, let_fin HO0.out HO1.out HO2.out HL01.out HL12.out HE0.out HE1.out (Nat.le_refl _) hoff HGA.out (by have := HGA.out; omega) HE12.out HE02.out (by simp) (by simp), hbf, .inl ⟨rfl, rfl⟩⟩
            · skip
              go_simp
              have hb : Below u2.heap.size u2 (u2.alloc (.cells #[.int .i64 f0, .int .i64 f1, .int .i64 t0, .int .i64 t1, .int .i64 n, .int .i64 z] 48)) := (Below.refl _ _).alloc (Nat.le_refl _) _
              have HK1 := Lib.hid (Blk.new u2 48 #[.int .i64 f0, .int .i64 f1, .int .i64 t0, .int .i64 t1, .int .i64 n, .int .i64 z])
              obtain ⟨u7, hw⟩ : ∃ w', w' = u2.alloc (.cells #[.int .i64 f0, .int .i64 f1, .int .i64 t0, .int .i64 t1, .int .i64 n, .int .i64 z] 48) := ⟨_, rfl⟩
              rw [← hw] at hb HK1
              have HRd := Lib.hid (HRd.out.call hb)
              have HK0 := Lib.hid (HK0.out.call hb)
              have HO0 := Lib.hid (OwSl.keep R_Letter_ok HO0.out fun k hk => hb.block k (by have := HM0.out; unfold Rg at hk; omega))
              have HM0 := Lib.hid (Nat.le_trans HM0.out hb.size)
              rw [← hw]
              clear hw
              have HML0 := Lib.hid (Nat.le_trans HML0.out hb.size)
              refine hK.out _ _ (hHeld.trans (But2.of hb)) (fun hHeld => ?_)
              clear hb
              clear hK K
              refine rd1 7 (fun K hK => ?_)
              go_simp
              go_at_call 44
              refine (letters2_impl (M := [((f0, f1), (t0, t1), n, z)]) (by simp only [List.length_singleton]; omega) ((HB0.out.below R_Letter_ok (HBz.out.trans (hHeld.2.2 W.heap.size (by omega) hzz))).more R_Letter_ok (HBz.out.trans (hHeld.2.2 W.heap.size (by omega) hzz)).size) (rd_one f0 f1 t0 t1 n z HK0.out)).mono ?_
              intro e u8 h
              obtain ⟨ya, yc, rfl, ho, hb⟩ := newS_elim h
              have HRd := Lib.hid (HRd.out.call hb)
              have HK0 := Lib.hid (HK0.out.call hb)
              have HK1 := Lib.hid (HK1.out.call hb)
              have HO0 := Lib.hid (OwSl.keep R_Letter_ok HO0.out fun k hk => hb.block k (by have := HM0.out; unfold Rg at hk; omega))
              have HM0 := Lib.hid (Nat.le_trans HM0.out hb.size)
              have HO1 := Lib.hid ho
              have HM1 := Lib.hid (Nat.le_refl u8.heap.size)
              have HE1 := Lib.hid hb.size
              have HL01 := HML0
              clear h ho
              have HML1 := Lib.hid (Nat.le_refl u8.heap.size)
              refine hK.out _ _ (hHeld.trans (But2.of hb)) (fun hHeld => ?_)
              clear hb
              clear hK K
              refine rd1 12 (fun K hK => ?_)
              go_simp
              go_at_call 44
              refine (letters2_impl (M := [((f0, f1), (t0, t1), n, z)]) (by simp only [List.length_singleton]; omega) ((HA0.out.below R_Letter_ok (HBz.out.trans (hHeld.2.2 W.heap.size (by omega) hzz))).more R_Letter_ok (HBz.out.trans (hHeld.2.2 W.heap.size (by omega) hzz)).size) (rd_one f0 f1 t0 t1 n z HK1.out)).mono ?_
              intro e u9 h
              obtain ⟨za, zc, rfl, ho, hb⟩ := newS_elim h
              have HRd := Lib.hid (HRd.out.call hb)
              have HK0 := Lib.hid (HK0.out.call hb)
              have HK1 := Lib.hid (HK1.out.call hb)
              have HO0 := Lib.hid (OwSl.keep R_Letter_ok HO0.out fun k hk => hb.block k (by have := HM0.out; unfold Rg at hk; omega))
              have HM0 := Lib.hid (Nat.le_trans HM0.out hb.size)
              have HO1 := Lib.hid (OwSl.keep R_Letter_ok HO1.out fun k hk => hb.block k (by have := HM1.out; unfold Rg at hk; omega))
              have HM1 := Lib.hid (Nat.le_trans HM1.out hb.size)
              have HO2 := Lib.hid ho
              have HM2 := Lib.hid (Nat.le_refl u9.heap.size)
              have HE2 := Lib.hid hb.size
              have HL12 := HML1
              have HE12 := HM1
              have HE02 := HM0
              clear h ho
              have HML2 := Lib.hid (Nat.le_refl u9.heap.size)
              refine hK.out _ _ (hHeld.trans (But2.of hb)) (fun hHeld => ?_)
              clear hb
              clear hK K
              refine tk 18 hHeld ?_
              refine rd1 19 (fun K hK => ?_)
              have qHRd_0 := HRd.out.at_ 0 rfl
              have qHRd_1 := HRd.out.at_ 1 rfl
              have qHRd_2 := HRd.out.at_ 2 rfl
              have qHRd_3 := HRd.out.at_ 3 rfl
              have qHRd_4 := HRd.out.at_ 4 rfl
              have sHRd_0 := HRd.out.soft 0
              have sHRd_1 := HRd.out.soft 1
              have sHRd_2 := HRd.out.soft 2
              have sHRd_3 := HRd.out.soft 3
              have sHRd_4 := HRd.out.soft 4
              go_simp
              refine hK.out _ _ (hHeld.trans (But2.off ((((((Off.refl (fun x => x = W.heap.size + 1 + 1 + 1) u9).setCell (p := ⟨W.heap.size + 1 + 1 + 1, 0, none⟩) (rfl) (.slice xa P.length xc)).setCell (p := ⟨W.heap.size + 1 + 1 + 1, 1, none⟩) (rfl) (.slice ya (B.length + 1) yc)).setCell (p := ⟨W.heap.size + 1 + 1 + 1, 2, none⟩) (rfl) (.slice za (A.length + 1) zc)).setCell (p := ⟨W.heap.size + 1 + 1 + 1, 3, none⟩) (rfl) (.int .i64 (u + 1))).setCell (p := ⟨W.heap.size + 1 + 1 + 1, 4, none⟩) (rfl) (.int .i64 n)))) (fun hHeld => ?_)
              clear qHRd_0 sHRd_0 qHRd_1 sHRd_1 qHRd_2 sHRd_2 qHRd_3 sHRd_3 qHRd_4 sHRd_4
              clear hK K
              refine tk 20 hHeld ?_
              refine rd0 ?_
              have qHRd_0 := HRd.out.at_ 0 rfl
              have qHRd_1 := HRd.out.at_ 1 rfl
              have qHRd_2 := HRd.out.at_ 2 rfl
              have qHRd_3 := HRd.out.at_ 3 rfl
              have qHRd_4 := HRd.out.at_ 4 rfl
              go_wp2
              refine bodyPost_ret (v := .tuple #[.agg #[.slice xa P.length xc, .slice ya (B.length + 1) yc, .slice za (A.length + 1) zc, .int .i64 (u + 1), .int .i64 n], .nilIface]) (by simp [results, Tryd.results24, go_sem, *]) rfl ?_
              rw [HG.out]
              have hoff := ((((((Off.refl (fun x => x = W.heap.size + 1 + 1 + 1) u9).setCell (p := ⟨W.heap.size + 1 + 1 + 1, 0, none⟩) (rfl) (.slice xa P.length xc)).setCell (p := ⟨W.heap.size + 1 + 1 + 1, 1, none⟩) (rfl) (.slice ya (B.length + 1) yc)).setCell (p := ⟨W.heap.size + 1 + 1 + 1, 2, none⟩) (rfl) (.slice za (A.length + 1) zc)).setCell (p := ⟨W.heap.size + 1 + 1 + 1, 3, none⟩) (rfl) (.int .i64 (u + 1))).setCell (p := ⟨W.heap.size + 1 + 1 + 1, 4, none⟩) (rfl) (.int .i64 n))
              have hbf := HBz.out.trans (hHeld.2.2 W.heap.size (by omega) hzz)
              exact ⟨_, _, rfl, let_fin HO0.out HO1.out HO2.out HL01.out HL12.out HE0.out HE1.out (Nat.le_refl _) hoff HGA.out (by have := HGA.out; omega) HE12.out HE02.out (by simp) (by simp), hbf, .inl ⟨rfl, rfl⟩⟩
          · skip
            go_simp
            have hb : Below u1.heap.size u1 (u1.alloc (.cells #[.int .i64 f0, .int .i64 f1, .int .i64 t0, .int .i64 t1, .int .i64 n, .int .i64 z] 48)) := (Below.refl _ _).alloc (Nat.le_refl _) _
            have HK1 := Lib.hid (Blk.new u1 48 #[.int .i64 f0, .int .i64 f1, .int .i64 t0, .int .i64 t1, .int .i64 n, .int .i64 z])
            obtain ⟨u11, hw⟩ : ∃ w', w' = u1.alloc (.cells #[.int .i64 f0, .int .i64 f1, .int .i64 t0, .int .i64 t1, .int .i64 n, .int .i64 z] 48) := ⟨_, rfl⟩
            rw [← hw] at hb HK1
            have HRd := Lib.hid (HRd.out.call hb)
            have HO0 := Lib.hid (OwSl.keep R_Letter_ok HO0.out fun k hk => hb.block k (by have := HM0.out; unfold Rg at hk; omega))
            have HM0 := Lib.hid (Nat.le_trans HM0.out hb.size)
            rw [← hw]
            clear hw
            have HML0 := Lib.hid (Nat.le_trans HML0.out hb.size)
            refine hK.out _ _ (hHeld.trans (But2.of hb)) (fun hHeld => ?_)
            clear hb
            clear hK K
            refine rd1 6 (fun K hK => ?_)
            go_simp
            have hb : Below u11.heap.size u11 (u11.alloc (.cells #[.int .i64 f0, .int .i64 f1, .int .i64 t0, .int .i64 t1, .int .i64 n, .int .i64 z] 48)) := (Below.refl _ _).alloc (Nat.le_refl _) _
            have HK0 := Lib.hid (Blk.new u11 48 #[.int .i64 f0, .int .i64 f1, .int .i64 t0, .int .i64 t1, .int .i64 n, .int .i64 z])
            obtain ⟨u12, hw⟩ : ∃ w', w' = u11.alloc (.cells #[.int .i64 f0, .int .i64 f1, .int .i64 t0, .int .i64 t1, .int .i64 n, .int .i64 z] 48) := ⟨_, rfl⟩
            rw [← hw] at hb HK0
            have HRd := Lib.hid (HRd.out.call hb)
            have HK1 := Lib.hid (HK1.out.call hb)
            have HO0 := Lib.hid (OwSl.keep R_Letter_ok HO0.out fun k hk => hb.block k (by have := HM0.out; unfold Rg at hk; omega))
            have HM0 := Lib.hid (Nat.le_trans HM0.out hb.size)
            rw [← hw]
            clear hw
            have HML0 := Lib.hid (Nat.le_trans HML0.out hb.size)
            refine hK.out _ _ (hHeld.trans (But2.of hb)) (fun hHeld => ?_)
            clear hb
            clear hK K
            refine rd1 7 (fun K hK => ?_)
            go_simp
            go_at_call 44
            refine (letters2_impl (M := [((f0, f1), (t0, t1), n, z)]) (by simp only [List.length_singleton]; omega) ((HB0.out.below R_Letter_ok (HBz.out.trans (hHeld.2.2 W.heap.size (by omega) hzz))).more R_Letter_ok (HBz.out.trans (hHeld.2.2 W.heap.size (by omega) hzz)).size) (rd_one f0 f1 t0 t1 n z HK0.out)).mono ?_
            intro e u13 h
            obtain ⟨ya, yc, rfl, ho, hb⟩ := newS_elim h
            have HRd := Lib.hid (HRd.out.call hb)
            have HK1 := Lib.hid (HK1.out.call hb)
            have HK0 := Lib.hid (HK0.out.call hb)
            have HO0 := Lib.hid (OwSl.keep R_Letter_ok HO0.out fun k hk => hb.block k (by have := HM0.out; unfold Rg at hk; omega))
            have HM0 := Lib.hid (Nat.le_trans HM0.out hb.size)
            have HO1 := Lib.hid ho
            have HM1 := Lib.hid (Nat.le_refl u13.heap.size)
            have HE1 := Lib.hid hb.size
            have HL01 := HML0
            clear h ho
            have HML1 := Lib.hid (Nat.le_refl u13.heap.size)
            refine hK.out _ _ (hHeld.trans (But2.of hb)) (fun hHeld => ?_)
            clear hb
            clear hK K
            refine rd1 12 (fun K hK => ?_)
            go_simp
            go_at_call 44
            refine (letters2_impl (M := [((f0, f1), (t0, t1), n, z)]) (by simp only [List.length_singleton]; omega) ((HA0.out.below R_Letter_ok (HBz.out.trans (hHeld.2.2 W.heap.size (by omega) hzz))).more R_Letter_ok (HBz.out.trans (hHeld.2.2 W.heap.size (by omega) hzz)).size) (rd_one f0 f1 t0 t1 n z HK1.out)).mono ?_
            intro e u14 h
            obtain ⟨za, zc, rfl, ho, hb⟩ := newS_elim h
            have HRd := Lib.hid (HRd.out.call hb)
            have HK1 := Lib.hid (HK1.out.call hb)
            have HK0 := Lib.hid (HK0.out.call hb)
            have HO0 := Lib.hid (OwSl.keep R_Letter_ok HO0.out fun k hk => hb.block k (by have := HM0.out; unfold Rg at hk; omega))
            have HM0 := Lib.hid (Nat.le_trans HM0.out hb.size)
            have HO1 := Lib.hid (OwSl.keep R_Letter_ok HO1.out fun k hk => hb.block k (by have := HM1.out; unfold Rg at hk; omega))
            have HM1 := Lib.hid (Nat.le_trans HM1.out hb.size)
            have HO2 := Lib.hid ho
            have HM2 := Lib.hid (Nat.le_refl u14.heap.size)
            have HE2 := Lib.hid hb.size
            have HL12 := HML1
            have HE12 := HM1
            have HE02 := HM0
            clear h ho
            have HML2 := Lib.hid (Nat.le_refl u14.heap.size)
            refine hK.out _ _ (hHeld.trans (But2.of hb)) (fun hHeld => ?_)
            clear hb
            clear hK K
            refine tk 18 hHeld ?_
            refine rd1 19 (fun K hK => ?_)
            have qHRd_0 := HRd.out.at_ 0 rfl
            have qHRd_1 := HRd.out.at_ 1 rfl
            have qHRd_2 := HRd.out.at_ 2 rfl
            have qHRd_3 := HRd.out.at_ 3 rfl
            have qHRd_4 := HRd.out.at_ 4 rfl
            have sHRd_0 := HRd.out.soft 0
            have sHRd_1 := HRd.out.soft 1
            have sHRd_2 := HRd.out.soft 2
            have sHRd_3 := HRd.out.soft 3
            have sHRd_4 := HRd.out.soft 4
            go_simp
            refine hK.out _ _ (hHeld.trans (But2.off ((((((Off.refl (fun x => x = W.heap.size + 1 + 1 + 1) u14).setCell (p := ⟨W.heap.size + 1 + 1 + 1, 0, none⟩) (rfl) (.slice xa P.length xc)).setCell (p := ⟨W.heap.size + 1 + 1 + 1, 1, none⟩) (rfl) (.slice ya (B.length + 1) yc)).setCell (p := ⟨W.heap.size + 1 + 1 + 1, 2, none⟩) (rfl) (.slice za (A.length + 1) zc)).setCell (p := ⟨W.heap.size + 1 + 1 + 1, 3, none⟩) (rfl) (.int .i64 (u + 1))).setCell (p := ⟨W.heap.size + 1 + 1 + 1, 4, none⟩) (rfl) (.int .i64 n)))) (fun hHeld => ?_)
            clear qHRd_0 sHRd_0 qHRd_1 sHRd_1 qHRd_2 sHRd_2 qHRd_3 sHRd_3 qHRd_4 sHRd_4
            clear hK K
            refine tk 20 hHeld ?_
            refine rd0 ?_
            have qHRd_0 := HRd.out.at_ 0 rfl
            have qHRd_1 := HRd.out.at_ 1 rfl
            have qHRd_2 := HRd.out.at_ 2 rfl
            have qHRd_3 := HRd.out.at_ 3 rfl
            have qHRd_4 := HRd.out.at_ 4 rfl
            go_wp2
            refine bodyPost_ret (v := .tuple #[.agg #[.slice xa P.length xc, .slice ya (B.length + 1) yc, .slice za (A.length + 1) zc, .int .i64 (u + 1), .int .i64 n], .nilIface]) (by simp [results, Tryd.results24, go_sem, *]) rfl ?_
            rw [HG.out]
            have hoff := ((((((Off.refl (fun x => x = W.heap.size + 1 + 1 + 1) u14).setCell (p := ⟨W.heap.size + 1 + 1 + 1, 0, none⟩) (rfl) (.slice xa P.length xc)).setCell (p := ⟨W.heap.size + 1 + 1 + 1, 1, none⟩) (rfl) (.slice ya (B.length + 1) yc)).setCell (p := ⟨W.heap.size + 1 + 1 + 1, 2, none⟩) (rfl) (.slice za (A.length + 1) zc)).setCell (p := ⟨W.heap.size + 1 + 1 + 1, 3, none⟩) (rfl) (.int .i64 (u + 1))).setCell (p := ⟨W.heap.size + 1 + 1 + 1, 4, none⟩) (rfl) (.int .i64 n))
            have hbf := HBz.out.trans (hHeld.2.2 W.heap.size (by omega) hzz)
            exact ⟨_, _, rfl, let_fin HO0.out HO1.out HO2.out HL01.out HL12.out HE0.out HE1.out (Nat.le_refl _) hoff HGA.out (by have := HGA.out; omega) HE12.out HE02.out (by simp) (by simp), hbf, .inl ⟨rfl, rfl⟩⟩
        · skip
          go_simp
          have hb : Below wd.heap.size wd (wd.alloc (.cells #[.int .i64 f0, .int .i64 f1, .int .i64 t0, .int .i64 t1, .int .i64 n, .int .i64 z] 48)) := (Below.refl _ _).alloc (Nat.le_refl _) _
          have HK0 := Lib.hid (Blk.new wd 48 #[.int .i64 f0, .int .i64 f1, .int .i64 t0, .int .i64 t1, .int .i64 n, .int .i64 z])
          obtain ⟨u16, hw⟩ : ∃ w', w' = wd.alloc (.cells #[.int .i64 f0, .int .i64 f1, .int .i64 t0, .int .i64 t1, .int .i64 n, .int .i64 z] 48) := ⟨_, rfl⟩
          rw [← hw] at hb HK0
          have HRd := Lib.hid (HRd.out.call hb)
          rw [← hw]
          clear hw
          refine hK.out _ _ (hHeld.trans (But2.of hb)) (fun hHeld => ?_)
          clear hb
          clear hK K
          refine rd2 2 11 (fun K hK => ?_) (fun K hK => ?_)
          · skip
            go_simp
            go_at_call 44
            refine (letters1_impl (by omega) ((HP0.out.below R_Letter_ok (HBz.out.trans (hHeld.2.2 W.heap.size (by omega) hzz))).more R_Letter_ok (HBz.out.trans (hHeld.2.2 W.heap.size (by omega) hzz)).size)).mono ?_
            intro e u17 h
            obtain ⟨xa, xc, rfl, ho, hb⟩ := newS_elim h
            have HRd := Lib.hid (HRd.out.call hb)
            have HK0 := Lib.hid (HK0.out.call hb)
            have HO0 := Lib.hid ho
            have HM0 := Lib.hid (Nat.le_refl u17.heap.size)
            have HE0 := Lib.hid hb.size
            have HGA := Lib.hid (show W.heap.size + 1 + 1 + 1 < u16.heap.size from Nat.lt_of_lt_of_le hgz hHeld.1)
            clear h ho
            have HML0 := Lib.hid (Nat.le_refl u17.heap.size)
            refine hK.out _ _ (hHeld.trans (But2.of hb)) (fun hHeld => ?_)
            clear hb
            clear hK K
            refine rd2 7 11 (fun K hK => ?_) (fun K hK => ?_)
            · skip
              go_simp
              go_at_call 44
              refine (letters2_impl (M := [((f0, f1), (t0, t1), n, z)]) (by simp only [List.length_singleton]; omega) ((HB0.out.below R_Letter_ok (HBz.out.trans (hHeld.2.2 W.heap.size (by omega) hzz))).more R_Letter_ok (HBz.out.trans (hHeld.2.2 W.heap.size (by omega) hzz)).size) (rd_one f0 f1 t0 t1 n z HK0.out)).mono ?_
              intro e u18 h
              obtain ⟨ya, yc, rfl, ho, hb⟩ := newS_elim h
              have HRd := Lib.hid (HRd.out.call hb)
              have HK0 := Lib.hid (HK0.out.call hb)
              have HO0 := Lib.hid (OwSl.keep R_Letter_ok HO0.out fun k hk => hb.block k (by have := HM0.out; unfold Rg at hk; omega))
              have HM0 := Lib.hid (Nat.le_trans HM0.out hb.size)
              have HO1 := Lib.hid ho
              have HM1 := Lib.hid (Nat.le_refl u18.heap.size)
              have HE1 := Lib.hid hb.size
              have HL01 := HML0
              clear h ho
              have HML1 := Lib.hid (Nat.le_refl u18.heap.size)
              refine hK.out _ _ (hHeld.trans (But2.of hb)) (fun hHeld => ?_)
              clear hb
              clear hK K
              refine rd1 11 (fun K hK => ?_)
              go_simp
              have hb : Below u18.heap.size u18 (u18.alloc (.cells #[.int .i64 f0, .int .i64 f1, .int .i64 t0, .int .i64 t1, .int .i64 n, .int .i64 z] 48)) := (Below.refl _ _).alloc (Nat.le_refl _) _
              have HK1 := Lib.hid (Blk.new u18 48 #[.int .i64 f0, .int .i64 f1, .int .i64 t0, .int .i64 t1, .int .i64 n, .int .i64 z])
              obtain ⟨u19, hw⟩ : ∃ w', w' = u18.alloc (.cells #[.int .i64 f0, .int .i64 f1, .int .i64 t0, .int .i64 t1, .int .i64 n, .int .i64 z] 48) := ⟨_, rfl⟩
              rw [← hw] at hb HK1
              have HRd := Lib.hid (HRd.out.call hb)
              have HK0 := Lib.hid (HK0.out.call hb)
              have HO0 := Lib.hid (OwSl.keep R_Letter_ok HO0.out fun k hk => hb.block k (by have := HM0.out; unfold Rg at hk; omega))
              have HM0 := Lib.hid (Nat.le_trans HM0.out hb.size)
              have HO1 := Lib.hid (OwSl.keep R_Letter_ok HO1.out fun k hk => hb.block k (by have := HM1.out; unfold Rg at hk; omega))
              have HM1 := Lib.hid (Nat.le_trans HM1.out hb.size)
              rw [← hw]
              clear hw
              have HML1 := Lib.hid (Nat.le_trans HML1.out hb.size)
              refine hK.out _ _ (hHeld.trans (But2.of hb)) (fun hHeld => ?_)
              clear hb
              clear hK K
              refine rd1 12 (fun K hK => ?_)
              go_simp
              go_at_call 44
              refine (letters2_impl (M := [((f0, f1), (t0, t1), n, z)]) (by simp only [List.length_singleton]; omega) ((HA0.out.below R_Letter_ok (HBz.out.trans (hHeld.2.2 W.heap.size (by omega) hzz))).more R_Letter_ok (HBz.out.trans (hHeld.2.2 W.heap.size (by omega) hzz)).size) (rd_one f0 f1 t0 t1 n z HK1.out)).mono ?_
              intro e u20 h
              obtain ⟨za, zc, rfl, ho, hb⟩ := newS_elim h
              have HRd := Lib.hid (HRd.out.call hb)
              have HK0 := Lib.hid (HK0.out.call hb)
              have HK1 := Lib.hid (HK1.out.call hb)
              have HO0 := Lib.hid (OwSl.keep R_Letter_ok HO0.out fun k hk => hb.block k (by have := HM0.out; unfold Rg at hk; omega))
              have HM0 := Lib.hid (Nat.le_trans HM0.out hb.size)
              have HO1 := Lib.hid (OwSl.keep R_Letter_ok HO1.out fun k hk => hb.block k (by have := HM1.out; unfold Rg at hk; omega))
              have HM1 := Lib.hid (Nat.le_trans HM1.out hb.size)
              have HO2 := Lib.hid ho
              have HM2 := Lib.hid (Nat.le_refl u20.heap.size)
              have HE2 := Lib.hid hb.size
              have HL12 := HML1
              have HE12 := HM1
              have HE02 := HM0
              clear h ho
              have HML2 := Lib.hid (Nat.le_refl u20.heap.size)
              refine hK.out _ _ (hHeld.trans (But2.of hb)) (fun hHeld => ?_)
              clear hb
              clear hK K
              refine tk 18 hHeld ?_
              refine rd1 19 (fun K hK => ?_)
              have qHRd_0 := HRd.out.at_ 0 rfl
              have qHRd_1 := HRd.out.at_ 1 rfl
              have qHRd_2 := HRd.out.at_ 2 rfl
              have qHRd_3 := HRd.out.at_ 3 rfl
              have qHRd_4 := HRd.out.at_ 4 rfl
              have sHRd_0 := HRd.out.soft 0
              have sHRd_1 := HRd.out.soft 1
              have sHRd_2 := HRd.out.soft 2
              have sHRd_3 := HRd.out.soft 3
              have sHRd_4 := HRd.out.soft 4
              go_simp
              refine hK.out _ _ (hHeld.trans (But2.off ((((((Off.refl (fun x => x = W.heap.size + 1 + 1 + 1) u20).setCell (p := ⟨W.heap.size + 1 + 1 + 1, 0, none⟩) (rfl) (.slice xa P.length xc)).setCell (p := ⟨W.heap.size + 1 + 1 + 1, 1, none⟩) (rfl) (.slice ya (B.length + 1) yc)).setCell (p := ⟨W.heap.size + 1 + 1 + 1, 2, none⟩) (rfl) (.slice za (A.length + 1) zc)).setCell (p := ⟨W.heap.size + 1 + 1 + 1, 3, none⟩) (rfl) (.int .i64 (u + 1))).setCell (p := ⟨W.heap.size + 1 + 1 + 1, 4, none⟩) (rfl) (.int .i64 n)))) (fun hHeld => ?_)
              clear qHRd_0 sHRd_0 qHRd_1 sHRd_1 qHRd_2 sHRd_2 qHRd_3 sHRd_3 qHRd_4 sHRd_4
              clear hK K
              refine tk 20 hHeld ?_
              refine rd0 ?_
              have qHRd_0 := HRd.out.at_ 0 rfl
              have qHRd_1 := HRd.out.at_ 1 rfl
              have qHRd_2 := HRd.out.at_ 2 rfl
              have qHRd_3 := HRd.out.at_ 3 rfl
              have qHRd_4 := HRd.out.at_ 4 rfl
              go_wp2
              refine bodyPost_ret (v := .tuple #[.agg #[.slice xa P.length xc, .slice ya (B.length + 1) yc, .slice za (A.length + 1) zc, .int .i64 (u + 1), .int .i64 n], .nilIface]) (by simp [results, Tryd.results24, go_sem, *]) rfl ?_
              rw [HG.out]
              have hoff := ((((((Off.refl (fun x => x = W.heap.size + 1 + 1 + 1) u20).setCell (p := ⟨W.heap.size + 1 + 1 + 1, 0, none⟩) (rfl) (.slice xa P.length xc)).setCell (p := ⟨W.heap.size + 1 + 1 + 1, 1, none⟩) (rfl) (.slice ya (B.length + 1) yc)).setCell (p := ⟨W.heap.size + 1 + 1 + 1, 2, none⟩) (rfl) (.slice za (A.length + 1) zc)).setCell (p := ⟨W.heap.size + 1 + 1 + 1, 3, none⟩) (rfl) (.int .i64 (u + 1))).setCell (p := ⟨W.heap.size + 1 + 1 + 1, 4, none⟩) (rfl) (.int .i64 n))
              have hbf := HBz.out.trans (hHeld.2.2 W.heap.size (by omega) hzz)
              exact ⟨_, _, rfl, let_fin HO0.out HO1.out HO2.out HL01.out HL12.out HE0.out HE1.out (Nat.le_refl _) hoff HGA.out (by have := HGA.out; omega) HE12.out HE02.out (by simp) (by simp), hbf, .inl ⟨rfl, rfl⟩⟩
            · skip
              go_simp
              have hb : Below u17.heap.size u17 (u17.alloc (.cells #[.int .i64 f0, .int .i64 f1, .int .i64 t0, .int .i64 t1, .int .i64 n, .int .i64 z] 48)) := (Below.refl _ _).alloc (Nat.le_refl _) _
              have HK1 := Lib.hid (Blk.new u17 48 #[.int .i64 f0, .int .i64 f1, .int .i64 t0, .int .i64 t1, .int .i64 n, .int .i64 z])
              obtain ⟨u22, hw⟩ : ∃ w', w' = u17.alloc (.cells #[.int .i64 f0, .int .i64 f1, .int .i64 t0, .int .i64 t1, .int .i64 n, .int .i64 z] 48) := ⟨_, rfl⟩
              rw [← hw] at hb HK1
              have HRd := Lib.hid (HRd.out.call hb)
              have HK0 := Lib.hid (HK0.out.call hb)
              have HO0 := Lib.hid (OwSl.keep R_Letter_ok HO0.out fun k hk => hb.block k (by have := HM0.out; unfold Rg at hk; omega))
              have HM0 := Lib.hid (Nat.le_trans HM0.out hb.size)
              rw [← hw]
              clear hw
              have HML0 := Lib.hid (Nat.le_trans HML0.out hb.size)
              refine hK.out _ _ (hHeld.trans (But2.of hb)) (fun hHeld => ?_)
              clear hb
              clear hK K
              refine rd1 7 (fun K hK => ?_)
              go_simp
              go_at_call 44
              refine (letters2_impl (M := [((f0, f1), (t0, t1), n, z)]) (by simp only [List.length_singleton]; omega) ((HB0.out.below R_Letter_ok (HBz.out.trans (hHeld.2.2 W.heap.size (by omega) hzz))).more R_Letter_ok (HBz.out.trans (hHeld.2.2 W.heap.size (by omega) hzz)).size) (rd_one f0 f1 t0 t1 n z HK0.out)).mono ?_
              intro e u23 h
              obtain ⟨ya, yc, rfl, ho, hb⟩ := newS_elim h
              have HRd := Lib.hid (HRd.out.call hb)
              have HK0 := Lib.hid (HK0.out.call hb)
              have HK1 := Lib.hid (HK1.out.call hb)
              have HO0 := Lib.hid (OwSl.keep R_Letter_ok HO0.out fun k hk => hb.block k (by have := HM0.out; unfold Rg at hk; omega))
              have HM0 := Lib.hid (Nat.le_trans HM0.out hb.size)
              have HO1 := Lib.hid ho
              have HM1 := Lib.hid (Nat.le_refl u23.heap.size)
              have HE1 := Lib.hid hb.size
              have HL01 := HML0
              clear h ho
              have HML1 := Lib.hid (Nat.le_refl u23.heap.size)
              refine hK.out _ _ (hHeld.trans (But2.of hb)) (fun hHeld => ?_)
              clear hb
              clear hK K
              refine rd1 12 (fun K hK => ?_)
              go_simp
              go_at_call 44
              refine (letters2_impl (M := [((f0, f1), (t0, t1), n, z)]) (by simp only [List.length_singleton]; omega) ((HA0.out.below R_Letter_ok (HBz.out.trans (hHeld.2.2 W.heap.size (by omega) hzz))).more R_Letter_ok (HBz.out.trans (hHeld.2.2 W.heap.size (by omega) hzz)).size) (rd_one f0 f1 t0 t1 n z HK1.out)).mono ?_
              intro e u24 h
              obtain ⟨za, zc, rfl, ho, hb⟩ := newS_elim h
              have HRd := Lib.hid (HRd.out.call hb)
              have HK0 := Lib.hid (HK0.out.call hb)
              have HK1 := Lib.hid (HK1.out.call hb)
              have HO0 := Lib.hid (OwSl.keep R_Letter_ok HO0.out fun k hk => hb.block k (by have := HM0.out; unfold Rg at hk; omega))
              have HM0 := Lib.hid (Nat.le_trans HM0.out hb.size)
              have HO1 := Lib.hid (OwSl.keep R_Letter_ok HO1.out fun k hk => hb.block k (by have := HM1.out; unfold Rg at hk; omega))
              have HM1 := Lib.hid (Nat.le_trans HM1.out hb.size)
              have HO2 := Lib.hid ho
              have HM2 := Lib.hid (Nat.le_refl u24.heap.size)
              have HE2 := Lib.hid hb.size
              have HL12 := HML1
              have HE12 := HM1
              have HE02 := HM0
              clear h ho
              have HML2 := Lib.hid (Nat.le_refl u24.heap.size)
              refine hK.out _ _ (hHeld.trans (But2.of hb)) (fun hHeld => ?_)
              clear hb
              clear hK K
              refine tk 18 hHeld ?_
              refine rd1 19 (fun K hK => ?_)
              have qHRd_0 := HRd.out.at_ 0 rfl
              have qHRd_1 := HRd.out.at_ 1 rfl
              have qHRd_2 := HRd.out.at_ 2 rfl
              have qHRd_3 := HRd.out.at_ 3 rfl
              have qHRd_4 := HRd.out.at_ 4 rfl
              have sHRd_0 := HRd.out.soft 0
              have sHRd_1 := HRd.out.soft 1
              have sHRd_2 := HRd.out.soft 2
              have sHRd_3 := HRd.out.soft 3
              have sHRd_4 := HRd.out.soft 4
              go_simp
              refine hK.out _ _ (hHeld.trans (But2.off ((((((Off.refl (fun x => x = W.heap.size + 1 + 1 + 1) u24).setCell (p := ⟨W.heap.size + 1 + 1 + 1, 0, none⟩) (rfl) (.slice xa P.length xc)).setCell (p := ⟨W.heap.size + 1 + 1 + 1, 1, none⟩) (rfl) (.slice ya (B.length + 1) yc)).setCell (p := ⟨W.heap.size + 1 + 1 + 1, 2, none⟩) (rfl) (.slice za (A.length + 1) zc)).setCell (p := ⟨W.heap.size + 1 + 1 + 1, 3, none⟩) (rfl) (.int .i64 (u + 1))).setCell (p := ⟨W.heap.size + 1 + 1 + 1, 4, none⟩) (rfl) (.int .i64 n)))) (fun hHeld => ?_)
              clear qHRd_0 sHRd_0 qHRd_1 sHRd_1 qHRd_2 sHRd_2 qHRd_3 sHRd_3 qHRd_4 sHRd_4
              clear hK K
              refine tk 20 hHeld ?_
              refine rd0 ?_
              have qHRd_0 := HRd.out.at_ 0 rfl
              have qHRd_1 := HRd.out.at_ 1 rfl
              have qHRd_2 := HRd.out.at_ 2 rfl
              have qHRd_3 := HRd.out.at_ 3 rfl
              have qHRd_4 := HRd.out.at_ 4 rfl
              go_wp2
              refine bodyPost_ret (v := .tuple #[.agg #[.slice xa P.length xc, .slice ya (B.length + 1) yc, .slice za (A.length + 1) zc, .int .i64 (u + 1), .int .i64 n], .nilIface]) (by simp [results, Tryd.results24, go_sem, *]) rfl ?_
              rw [HG.out]
              have hoff := ((((((Off.refl (fun x => x = W.heap.size + 1 + 1 + 1) u24).setCell (p := ⟨W.heap.size + 1 + 1 + 1, 0, none⟩) (rfl) (.slice xa P.length xc)).setCell (p := ⟨W.heap.size + 1 + 1 + 1, 1, none⟩) (rfl) (.slice ya (B.length + 1) yc)).setCell (p := ⟨W.heap.size + 1 + 1 + 1, 2, none⟩) (rfl) (.slice za (A.length + 1) zc)).setCell (p := ⟨W.heap.size + 1 + 1 + 1, 3, none⟩) (rfl) (.int .i64 (u + 1))).setCell (p := ⟨W.heap.size + 1 + 1 + 1, 4, none⟩) (rfl) (.int .i64 n))
              have hbf := HBz.out.trans (hHeld.2.2 W.heap.size (by omega) hzz)
              exact ⟨_, _, rfl, let_fin HO0.out HO1.out HO2.out HL01.out HL12.out HE0.out HE1.out (Nat.le_refl _) hoff HGA.out (by have := HGA.out; omega) HE12.out HE02.out (by simp) (by simp), hbf, .inl ⟨rfl, rfl⟩⟩
          · skip
            go_simp
            have hb : Below u16.heap.size u16 (u16.alloc (.cells #[.int .i64 f0, .int .i64 f1, .int .i64 t0, .int .i64 t1, .int .i64 n, .int .i64 z] 48)) := (Below.refl _ _).alloc (Nat.le_refl _) _
            have HK1 := Lib.hid (Blk.new u16 48 #[.int .i64 f0, .int .i64 f1, .int .i64 t0, .int .i64 t1, .int .i64 n, .int .i64 z])
            obtain ⟨u26, hw⟩ : ∃ w', w' = u16.alloc (.cells #[.int .i64 f0, .int .i64 f1, .int .i64 t0, .int .i64 t1, .int .i64 n, .int .i64 z] 48) := ⟨_, rfl⟩
            rw [← hw] at hb HK1
            have HRd := Lib.hid (HRd.out.call hb)
            have HK0 := Lib.hid (HK0.out.call hb)
            rw [← hw]
            clear hw
            refine hK.out _ _ (hHeld.trans (But2.of hb)) (fun hHeld => ?_)
            clear hb
            clear hK K
            refine rd1 2 (fun K hK => ?_)
            go_simp
            go_at_call 44
            refine (letters1_impl (by omega) ((HP0.out.below R_Letter_ok (HBz.out.trans (hHeld.2.2 W.heap.size (by omega) hzz))).more R_Letter_ok (HBz.out.trans (hHeld.2.2 W.heap.size (by omega) hzz)).size)).mono ?_
            intro e u27 h
            obtain ⟨xa, xc, rfl, ho, hb⟩ := newS_elim h
            have HRd := Lib.hid (HRd.out.call hb)
            have HK0 := Lib.hid (HK0.out.call hb)
            have HK1 := Lib.hid (HK1.out.call hb)
            have HO0 := Lib.hid ho
            have HM0 := Lib.hid (Nat.le_refl u27.heap.size)
            have HE0 := Lib.hid hb.size
            have HGA := Lib.hid (show W.heap.size + 1 + 1 + 1 < u26.heap.size from Nat.lt_of_lt_of_le hgz hHeld.1)
            clear h ho
            have HML0 := Lib.hid (Nat.le_refl u27.heap.size)
            refine hK.out _ _ (hHeld.trans (But2.of hb)) (fun hHeld => ?_)
            clear hb
            clear hK K
            refine rd1 7 (fun K hK => ?_)
            go_simp
            go_at_call 44
            refine (letters2_impl (M := [((f0, f1), (t0, t1), n, z)]) (by simp only [List.length_singleton]; omega) ((HB0.out.below R_Letter_ok (HBz.out.trans (hHeld.2.2 W.heap.size (by omega) hzz))).more R_Letter_ok (HBz.out.trans (hHeld.2.2 W.heap.size (by omega) hzz)).size) (rd_one f0 f1 t0 t1 n z HK0.out)).mono ?_
            intro e u28 h
            obtain ⟨ya, yc, rfl, ho, hb⟩ := newS_elim h
            have HRd := Lib.hid (HRd.out.call hb)
            have HK0 := Lib.hid (HK0.out.call hb)
            have HK1 := Lib.hid (HK1.out.call hb)
            have HO0 := Lib.hid (OwSl.keep R_Letter_ok HO0.out fun k hk => hb.block k (by have := HM0.out; unfold Rg at hk; omega))
            have HM0 := Lib.hid (Nat.le_trans HM0.out hb.size)
            have HO1 := Lib.hid ho
            have HM1 := Lib.hid (Nat.le_refl u28.heap.size)
            have HE1 := Lib.hid hb.size
            have HL01 := HML0
            clear h ho
            have HML1 := Lib.hid (Nat.le_refl u28.heap.size)
            refine hK.out _ _ (hHeld.trans (But2.of hb)) (fun hHeld => ?_)
            clear hb
            clear hK K
            refine rd1 12 (fun K hK => ?_)
            go_simp
            go_at_call 44
            refine (letters2_impl (M := [((f0, f1), (t0, t1), n, z)]) (by simp only [List.length_singleton]; omega) ((HA0.out.below R_Letter_ok (HBz.out.trans (hHeld.2.2 W.heap.size (by omega) hzz))).more R_Letter_ok (HBz.out.trans (hHeld.2.2 W.heap.size (by omega) hzz)).size) (rd_one f0 f1 t0 t1 n z HK1.out)).mono ?_
            intro e u29 h
            obtain ⟨za, zc, rfl, ho, hb⟩ := newS_elim h
            have HRd := Lib.hid (HRd.out.call hb)
            have HK0 := Lib.hid (HK0.out.call hb)
            have HK1 := Lib.hid (HK1.out.call hb)
            have HO0 := Lib.hid (OwSl.keep R_Letter_ok HO0.out fun k hk => hb.block k (by have := HM0.out; unfold Rg at hk; omega))
            have HM0 := Lib.hid (Nat.le_trans HM0.out hb.size)
            have HO1 := Lib.hid (OwSl.keep R_Letter_ok HO1.out fun k hk => hb.block k (by have := HM1.out; unfold Rg at hk; omega))
            have HM1 := Lib.hid (Nat.le_trans HM1.out hb.size)
            have HO2 := Lib.hid ho
            have HM2 := Lib.hid (Nat.le_refl u29.heap.size)
            have HE2 := Lib.hid hb.size
            have HL12 := HML1
            have HE12 := HM1
            have HE02 := HM0
            clear h ho
            have HML2 := Lib.hid (Nat.le_refl u29.heap.size)
            refine hK.out _ _ (hHeld.trans (But2.of hb)) (fun hHeld => ?_)
            clear hb
            clear hK K
            refine tk 18 hHeld ?_
            refine rd1 19 (fun K hK => ?_)
            have qHRd_0 := HRd.out.at_ 0 rfl
            have qHRd_1 := HRd.out.at_ 1 rfl
            have qHRd_2 := HRd.out.at_ 2 rfl
            have qHRd_3 := HRd.out.at_ 3 rfl
            have qHRd_4 := HRd.out.at_ 4 rfl
            have sHRd_0 := HRd.out.soft 0
            have sHRd_1 := HRd.out.soft 1
            have sHRd_2 := HRd.out.soft 2
            have sHRd_3 := HRd.out.soft 3
            have sHRd_4 := HRd.out.soft 4
            go_simp
            refine hK.out _ _ (hHeld.trans (But2.off ((((((Off.refl (fun x => x = W.heap.size + 1 + 1 + 1) u29).setCell (p := ⟨W.heap.size + 1 + 1 + 1, 0, none⟩) (rfl) (.slice xa P.length xc)).setCell (p := ⟨W.heap.size + 1 + 1 + 1, 1, none⟩) (rfl) (.slice ya (B.length + 1) yc)).setCell (p := ⟨W.heap.size + 1 + 1 + 1, 2, none⟩) (rfl) (.slice za (A.length + 1) zc)).setCell (p := ⟨W.heap.size + 1 + 1 + 1, 3, none⟩) (rfl) (.int .i64 (u + 1))).setCell (p := ⟨W.heap.size + 1 + 1 + 1, 4, none⟩) (rfl) (.int .i64 n)))) (fun hHeld => ?_)
            clear qHRd_0 sHRd_0 qHRd_1 sHRd_1 qHRd_2 sHRd_2 qHRd_3 sHRd_3 qHRd_4 sHRd_4
            clear hK K
            refine tk 20 hHeld ?_
            refine rd0 ?_
            have qHRd_0 := HRd.out.at_ 0 rfl
            have qHRd_1 := HRd.out.at_ 1 rfl
            have qHRd_2 := HRd.out.at_ 2 rfl
            have qHRd_3 := HRd.out.at_ 3 rfl
            have qHRd_4 := HRd.out.at_ 4 rfl
            go_wp2
            refine bodyPost_ret (v := .tuple #[.agg #[.slice xa P.length xc, .slice ya (B.length + 1) yc, .slice za (A.length + 1) zc, .int .i64 (u + 1), .int .i64 n], .nilIface]) (by simp [results, Tryd.results24, go_sem, *]) rfl ?_
            rw [HG.out]
            have hoff := ((((((Off.refl (fun x => x = W.heap.size + 1 + 1 + 1) u29).setCell (p := ⟨W.heap.size + 1 + 1 + 1, 0, none⟩) (rfl) (.slice xa P.length xc)).setCell (p := ⟨W.heap.size + 1 + 1 + 1, 1, none⟩) (rfl) (.slice ya (B.length + 1) yc)).setCell (p := ⟨W.heap.size + 1 + 1 + 1, 2, none⟩) (rfl) (.slice za (A.length + 1) zc)).setCell (p := ⟨W.heap.size + 1 + 1 + 1, 3, none⟩) (rfl) (.int .i64 (u + 1))).setCell (p := ⟨W.heap.size + 1 + 1 + 1, 4, none⟩) (rfl) (.int .i64 n))
            have hbf := HBz.out.trans (hHeld.2.2 W.heap.size (by omega) hzz)
            exact ⟨_, _, rfl, let_fin HO0.out HO1.out HO2.out HL01.out HL12.out HE0.out HE1.out (Nat.le_refl _) hoff HGA.out (by have := HGA.out; omega) HE12.out HE02.out (by simp) (by simp), hbf, .inl ⟨rfl, rfl⟩⟩
        · skip
          go_simp
          have hb : Below wd.heap.size wd (wd.alloc (.cells #[.int .i64 f0, .int .i64 f1, .int .i64 t0, .int .i64 t1, .int .i64 n, .int .i64 z] 48)) := (Below.refl _ _).alloc (Nat.le_refl _) _
          have HK1 := Lib.hid (Blk.new wd 48 #[.int .i64 f0, .int .i64 f1, .int .i64 t0, .int .i64 t1, .int .i64 n, .int .i64 z])
          obtain ⟨u31, hw⟩ : ∃ w', w' = wd.alloc (.cells #[.int .i64 f0, .int .i64 f1, .int .i64 t0, .int .i64 t1, .int .i64 n, .int .i64 z] 48) := ⟨_, rfl⟩
          rw [← hw] at hb HK1
          have HRd := Lib.hid (HRd.out.call hb)
          rw [← hw]
          clear hw
          refine hK.out _ _ (hHeld.trans (But2.of hb)) (fun hHeld => ?_)
          clear hb
          clear hK K
          refine rd2 2 6 (fun K hK => ?_) (fun K hK => ?_)
          · skip
            go_simp
            go_at_call 44
            refine (letters1_impl (by omega) ((HP0.out.below R_Letter_ok (HBz.out.trans (hHeld.2.2 W.heap.size (by omega) hzz))).more R_Letter_ok (HBz.out.trans (hHeld.2.2 W.heap.size (by omega) hzz)).size)).mono ?_
            intro e u32 h
            obtain ⟨xa, xc, rfl, ho, hb⟩ := newS_elim h
            have HRd := Lib.hid (HRd.out.call hb)
            have HK1 := Lib.hid (HK1.out.call hb)
            have HO0 := Lib.hid ho
            have HM0 := Lib.hid (Nat.le_refl u32.heap.size)
            have HE0 := Lib.hid hb.size
            have HGA := Lib.hid (show W.heap.size + 1 + 1 + 1 < u31.heap.size from Nat.lt_of_lt_of_le hgz hHeld.1)
            clear h ho
            have HML0 := Lib.hid (Nat.le_refl u32.heap.size)
            refine hK.out _ _ (hHeld.trans (But2.of hb)) (fun hHeld => ?_)
            clear hb
            clear hK K
            refine rd1 6 (fun K hK => ?_)
            go_simp
            have hb : Below u32.heap.size u32 (u32.alloc (.cells #[.int .i64 f0, .int .i64 f1, .int .i64 t0, .int .i64 t1, .int .i64 n, .int .i64 z] 48)) := (Below.refl _ _).alloc (Nat.le_refl _) _
            have HK0 := Lib.hid (Blk.new u32 48 #[.int .i64 f0, .int .i64 f1, .int .i64 t0, .int .i64 t1, .int .i64 n, .int .i64 z])
            obtain ⟨u33, hw⟩ : ∃ w', w' = u32.alloc (.cells #[.int .i64 f0, .int .i64 f1, .int .i64 t0, .int .i64 t1, .int .i64 n, .int .i64 z] 48) := ⟨_, rfl⟩
            rw [← hw] at hb HK0
            have HRd := Lib.hid (HRd.out.call hb)
            have HK1 := Lib.hid (HK1.out.call hb)
            have HO0 := Lib.hid (OwSl.keep R_Letter_ok HO0.out fun k hk => hb.block k (by have := HM0.out; unfold Rg at hk; omega))
            have HM0 := Lib.hid (Nat.le_trans HM0.out hb.size)
            rw [← hw]
            clear hw
            have HML0 := Lib.hid (Nat.le_trans HML0.out hb.size)
            refine hK.out _ _ (hHeld.trans (But2.of hb)) (fun hHeld => ?_)
            clear hb
            clear hK K
            refine rd1 7 (fun K hK => ?_)
            go_simp
            go_at_call 44
            refine (letters2_impl (M := [((f0, f1), (t0, t1), n, z)]) (by simp only [List.length_singleton]; omega) ((HB0.out.below R_Letter_ok (HBz.out.trans (hHeld.2.2 W.heap.size (by omega) hzz))).more R_Letter_ok (HBz.out.trans (hHeld.2.2 W.heap.size (by omega) hzz)).size) (rd_one f0 f1 t0 t1 n z HK0.out)).mono ?_
            intro e u34 h
            obtain ⟨ya, yc, rfl, ho, hb⟩ := newS_elim h
            have HRd := Lib.hid (HRd.out.call hb)
            have HK1 := Lib.hid (HK1.out.call hb)
            have HK0 := Lib.hid (HK0.out.call hb)
            have HO0 := Lib.hid (OwSl.keep R_Letter_ok HO0.out fun k hk => hb.block k (by have := HM0.out; unfold Rg at hk; omega))
            have HM0 := Lib.hid (Nat.le_trans HM0.out hb.size)
            have HO1 := Lib.hid ho
            have HM1 := Lib.hid (Nat.le_refl u34.heap.size)
            have HE1 := Lib.hid hb.size
            have HL01 := HML0
            clear h ho
            have HML1 := Lib.hid (Nat.le_refl u34.heap.size)
            refine hK.out _ _ (hHeld.trans (But2.of hb)) (fun hHeld => ?_)
            clear hb
            clear hK K
            refine rd1 12 (fun K hK => ?_)
            go_simp
            go_at_call 44
            refine (letters2_impl (M := [((f0, f1), (t0, t1), n, z)]) (by simp only [List.length_singleton]; omega) ((HA0.out.below R_Letter_ok (HBz.out.trans (hHeld.2.2 W.heap.size (by omega) hzz))).more R_Letter_ok (HBz.out.trans (hHeld.2.2 W.heap.size (by omega) hzz)).size) (rd_one f0 f1 t0 t1 n z HK1.out)).mono ?_
            intro e u35 h
            obtain ⟨za, zc, rfl, ho, hb⟩ := newS_elim h
            have HRd := Lib.hid (HRd.out.call hb)
            have HK1 := Lib.hid (HK1.out.call hb)
            have HK0 := Lib.hid (HK0.out.call hb)
            have HO0 := Lib.hid (OwSl.keep R_Letter_ok HO0.out fun k hk => hb.block k (by have := HM0.out; unfold Rg at hk; omega))
            have HM0 := Lib.hid (Nat.le_trans HM0.out hb.size)
            have HO1 := Lib.hid (OwSl.keep R_Letter_ok HO1.out fun k hk => hb.block k (by have := HM1.out; unfold Rg at hk; omega))
            have HM1 := Lib.hid (Nat.le_trans HM1.out hb.size)
            have HO2 := Lib.hid ho
            have HM2 := Lib.hid (Nat.le_refl u35.heap.size)
            have HE2 := Lib.hid hb.size
            have HL12 := HML1
            have HE12 := HM1
            have HE02 := HM0
            clear h ho
            have HML2 := Lib.hid (Nat.le_refl u35.heap.size)
            refine hK.out _ _ (hHeld.trans (But2.of hb)) (fun hHeld => ?_)
            clear hb
            clear hK K
            refine tk 18 hHeld ?_
            refine rd1 19 (fun K hK => ?_)
            have qHRd_0 := HRd.out.at_ 0 rfl
            have qHRd_1 := HRd.out.at_ 1 rfl
            have qHRd_2 := HRd.out.at_ 2 rfl
            have qHRd_3 := HRd.out.at_ 3 rfl
            have qHRd_4 := HRd.out.at_ 4 rfl
            have sHRd_0 := HRd.out.soft 0
            have sHRd_1 := HRd.out.soft 1
            have sHRd_2 := HRd.out.soft 2
            have sHRd_3 := HRd.out.soft 3
            have sHRd_4 := HRd.out.soft 4
            go_simp
            refine hK.out _ _ (hHeld.trans (But2.off ((((((Off.refl (fun x => x = W.heap.size + 1 + 1 + 1) u35).setCell (p := ⟨W.heap.size + 1 + 1 + 1, 0, none⟩) (rfl) (.slice xa P.length xc)).setCell (p := ⟨W.heap.size + 1 + 1 + 1, 1, none⟩) (rfl) (.slice ya (B.length + 1) yc)).setCell (p := ⟨W.heap.size + 1 + 1 + 1, 2, none⟩) (rfl) (.slice za (A.length + 1) zc)).setCell (p := ⟨W.heap.size + 1 + 1 + 1, 3, none⟩) (rfl) (.int .i64 (u + 1))).setCell (p := ⟨W.heap.size + 1 + 1 + 1, 4, none⟩) (rfl) (.int .i64 n)))) (fun hHeld => ?_)
            clear qHRd_0 sHRd_0 qHRd_1 sHRd_1 qHRd_2 sHRd_2 qHRd_3 sHRd_3 qHRd_4 sHRd_4
            clear hK K
            refine tk 20 hHeld ?_
            refine rd0 ?_
            have qHRd_0 := HRd.out.at_ 0 rfl
            have qHRd_1 := HRd.out.at_ 1 rfl
            have qHRd_2 := HRd.out.at_ 2 rfl
            have qHRd_3 := HRd.out.at_ 3 rfl
            have qHRd_4 := HRd.out.at_ 4 rfl
            go_wp2
            refine bodyPost_ret (v := .tuple #[.agg #[.slice xa P.length xc, .slice ya (B.length + 1) yc, .slice za (A.length + 1) zc, .int .i64 (u + 1), .int .i64 n], .nilIface]) (by simp [results, Tryd.results24, go_sem, *]) rfl ?_
            rw [HG.out]
            have hoff := ((((((Off.refl (fun x => x = W.heap.size + 1 + 1 + 1) u35).setCell (p := ⟨W.heap.size + 1 + 1 + 1, 0, none⟩) (rfl) (.slice xa P.length xc)).setCell (p := ⟨W.heap.size + 1 + 1 + 1, 1, none⟩) (rfl) (.slice ya (B.length + 1) yc)).setCell (p := ⟨W.heap.size + 1 + 1 + 1, 2, none⟩) (rfl) (.slice za (A.length + 1) zc)).setCell (p := ⟨W.heap.size + 1 + 1 + 1, 3, none⟩) (rfl) (.int .i64 (u + 1))).setCell (p := ⟨W.heap.size + 1 + 1 + 1, 4, none⟩) (rfl) (.int .i64 n))
            have hbf := HBz.out.trans (hHeld.2.2 W.heap.size (by omega) hzz)
            exact ⟨_, _, rfl, let_fin HO0.out HO1.out HO2.out HL01.out HL12.out HE0.out HE1.out (Nat.le_refl _) hoff HGA.out (by have := HGA.out; omega) HE12.out HE02.out (by simp) (by simp), hbf, .inl ⟨rfl, rfl⟩⟩
          · skip
            go_simp
            have hb : Below u31.heap.size u31 (u31.alloc (.cells #[.int .i64 f0, .int .i64 f1, .int .i64 t0, .int .i64 t1, .int .i64 n, .int .i64 z] 48)) := (Below.refl _ _).alloc (Nat.le_refl _) _
            have HK0 := Lib.hid (Blk.new u31 48 #[.int .i64 f0, .int .i64 f1, .int .i64 t0, .int .i64 t1, .int .i64 n, .int .i64 z])
            obtain ⟨u37, hw⟩ : ∃ w', w' = u31.alloc (.cells #[.int .i64 f0, .int .i64 f1, .int .i64 t0, .int .i64 t1, .int .i64 n, .int .i64 z] 48) := ⟨_, rfl⟩
            rw [← hw] at hb HK0
            have HRd := Lib.hid (HRd.out.call hb)
            have HK1 := Lib.hid (HK1.out.call hb)
            rw [← hw]
            clear hw
            refine hK.out _ _ (hHeld.trans (But2.of hb)) (fun hHeld => ?_)
            clear hb
            clear hK K
            refine rd1 2 (fun K hK => ?_)
            go_simp
            go_at_call 44
            refine (letters1_impl (by omega) ((HP0.out.below R_Letter_ok (HBz.out.trans (hHeld.2.2 W.heap.size (by omega) hzz))).more R_Letter_ok (HBz.out.trans (hHeld.2.2 W.heap.size (by omega) hzz)).size)).mono ?_
            intro e u38 h
            obtain ⟨xa, xc, rfl, ho, hb⟩ := newS_elim h
            have HRd := Lib.hid (HRd.out.call hb)
            have HK1 := Lib.hid (HK1.out.call hb)
            have HK0 := Lib.hid (HK0.out.call hb)
            have HO0 := Lib.hid ho
            have HM0 := Lib.hid (Nat.le_refl u38.heap.size)
            have HE0 := Lib.hid hb.size
            have HGA := Lib.hid (show W.heap.size + 1 + 1 + 1 < u37.heap.size from Nat.lt_of_lt_of_le hgz hHeld.1)
            clear h ho
            have HML0 := Lib.hid (Nat.le_refl u38.heap.size)
            refine hK.out _ _ (hHeld.trans (But2.of hb)) (fun hHeld => ?_)
            clear hb
            clear hK K
            refine rd1 7 (fun K hK => ?_)
            go_simp
            go_at_call 44
            refine (letters2_impl (M := [((f0, f1), (t0, t1), n, z)]) (by simp only [List.length_singleton]; omega) ((HB0.out.below R_Letter_ok (HBz.out.trans (hHeld.2.2 W.heap.size (by omega) hzz))).more R_Letter_ok (HBz.out.trans (hHeld.2.2 W.heap.size (by omega) hzz)).size) (rd_one f0 f1 t0 t1 n z HK0.out)).mono ?_
            intro e u39 h
            obtain ⟨ya, yc, rfl, ho, hb⟩ := newS_elim h
            have HRd := Lib.hid (HRd.out.call hb)
            have HK1 := Lib.hid (HK1.out.call hb)
            have HK0 := Lib.hid (HK0.out.call hb)
            have HO0 := Lib.hid (OwSl.keep R_Letter_ok HO0.out fun k hk => hb.block k (by have := HM0.out; unfold Rg at hk; omega))
            have HM0 := Lib.hid (Nat.le_trans HM0.out hb.size)
            have HO1 := Lib.hid ho
            have HM1 := Lib.hid (Nat.le_refl u39.heap.size)
            have HE1 := Lib.hid hb.size
            have HL01 := HML0
            clear h ho
            have HML1 := Lib.hid (Nat.le_refl u39.heap.size)
            refine hK.out _ _ (hHeld.trans (But2.of hb)) (fun hHeld => ?_)
            clear hb
            clear hK K
            refine rd1 12 (fun K hK => ?_)
            go_simp
            go_at_call 44
            refine (letters2_impl (M := [((f0, f1), (t0, t1), n, z)]) (by simp only [List.length_singleton]; omega) ((HA0.out.below R_Letter_ok (HBz.out.trans (hHeld.2.2 W.heap.size (by omega) hzz))).more R_Letter_ok (HBz.out.trans (hHeld.2.2 W.heap.size (by omega) hzz)).size) (rd_one f0 f1 t0 t1 n z HK1.out)).mono ?_
            intro e u40 h
            obtain ⟨za, zc, rfl, ho, hb⟩ := newS_elim h
            have HRd := Lib.hid (HRd.out.call hb)
            have HK1 := Lib.hid (HK1.out.call hb)
            have HK0 := Lib.hid (HK0.out.call hb)
            have HO0 := Lib.hid (OwSl.keep R_Letter_ok HO0.out fun k hk => hb.block k (by have := HM0.out; unfold Rg at hk; omega))
            have HM0 := Lib.hid (Nat.le_trans HM0.out hb.size)
            have HO1 := Lib.hid (OwSl.keep R_Letter_ok HO1.out fun k hk => hb.block k (by have := HM1.out; unfold Rg at hk; omega))
            have HM1 := Lib.hid (Nat.le_trans HM1.out hb.size)
            have HO2 := Lib.hid ho
            have HM2 := Lib.hid (Nat.le_refl u40.heap.size)
            have HE2 := Lib.hid hb.size
            have HL12 := HML1
            have HE12 := HM1
            have HE02 := HM0
            clear h ho
            have HML2 := Lib.hid (Nat.le_refl u40.heap.size)
            refine hK.out _ _ (hHeld.trans (But2.of hb)) (fun hHeld => ?_)
            clear hb
            clear hK K
            refine tk 18 hHeld ?_
            refine rd1 19 (fun K hK => ?_)
            have qHRd_0 := HRd.out.at_ 0 rfl
            have qHRd_1 := HRd.out.at_ 1 rfl
            have qHRd_2 := HRd.out.at_ 2 rfl
            have qHRd_3 := HRd.out.at_ 3 rfl
            have qHRd_4 := HRd.out.at_ 4 rfl
            have sHRd_0 := HRd.out.soft 0
            have sHRd_1 := HRd.out.soft 1
            have sHRd_2 := HRd.out.soft 2
            have sHRd_3 := HRd.out.soft 3
            have sHRd_4 := HRd.out.soft 4
            go_simp
            refine hK.out _ _ (hHeld.trans (But2.off ((((((Off.refl (fun x => x = W.heap.size + 1 + 1 + 1) u40).setCell (p := ⟨W.heap.size + 1 + 1 + 1, 0, none⟩) (rfl) (.slice xa P.length xc)).setCell (p := ⟨W.heap.size + 1 + 1 + 1, 1, none⟩) (rfl) (.slice ya (B.length + 1) yc)).setCell (p := ⟨W.heap.size + 1 + 1 + 1, 2, none⟩) (rfl) (.slice za (A.length + 1) zc)).setCell (p := ⟨W.heap.size + 1 + 1 + 1, 3, none⟩) (rfl) (.int .i64 (u + 1))).setCell (p := ⟨W.heap.size + 1 + 1 + 1, 4, none⟩) (rfl) (.int .i64 n)))) (fun hHeld => ?_)
            clear qHRd_0 sHRd_0 qHRd_1 sHRd_1 qHRd_2 sHRd_2 qHRd_3 sHRd_3 qHRd_4 sHRd_4
            clear hK K
            refine tk 20 hHeld ?_
            refine rd0 ?_
            have qHRd_0 := HRd.out.at_ 0 rfl
            have qHRd_1 := HRd.out.at_ 1 rfl
            have qHRd_2 := HRd.out.at_ 2 rfl
            have qHRd_3 := HRd.out.at_ 3 rfl
            have qHRd_4 := HRd.out.at_ 4 rfl
            go_wp2
            refine bodyPost_ret (v := .tuple #[.agg #[.slice xa P.length xc, .slice ya (B.length + 1) yc, .slice za (A.length + 1) zc, .int .i64 (u + 1), .int .i64 n], .nilIface]) (by simp [results, Tryd.results24, go_sem, *]) rfl ?_
            rw [HG.out]
            have hoff := ((((((Off.refl (fun x => x = W.heap.size + 1 + 1 + 1) u40).setCell (p := ⟨W.heap.size + 1 + 1 + 1, 0, none⟩) (rfl) (.slice xa P.length xc)).setCell (p := ⟨W.heap.size + 1 + 1 + 1, 1, none⟩) (rfl) (.slice ya (B.length + 1) yc)).setCell (p := ⟨W.heap.size + 1 + 1 + 1, 2, none⟩) (rfl) (.slice za (A.length + 1) zc)).setCell (p := ⟨W.heap.size + 1 + 1 + 1, 3, none⟩) (rfl) (.int .i64 (u + 1))).setCell (p := ⟨W.heap.size + 1 + 1 + 1, 4, none⟩) (rfl) (.int .i64 n))
            have hbf := HBz.out.trans (hHeld.2.2 W.heap.size (by omega) hzz)
            exact ⟨_, _, rfl, let_fin HO0.out HO1.out HO2.out HL01.out HL12.out HE0.out HE1.out (Nat.le_refl _) hoff HGA.out (by have := HGA.out; omega) HE12.out HE02.out (by simp) (by simp), hbf, .inl ⟨rfl, rfl⟩⟩
end Go.Proofs.YtphklknaagjmpaaDoor.RepC
end
section
namespace Go.Proofs.YtphklknaagjmpaaDoor.LiftL
open Go.ChangeShapes Go.WideShapes Go.ChangeAt Go.RowKit Go.Joins
section
variable {H : Type} {enc : TypeId × Value → H} {P : Program}
def allRead (P : Program) (ts : List TypeId) : Bool := ts.all fun t => P.readableRec t && decide (t < P.types.size)
theorem trodAll_stays (hl : laidOutB P = true) {W W' : World} (hb : Below W.heap.size W W') : ∀ (ts : List TypeId) (vs : List Value) (ds : List (DataW H)) (ps : List MemPlace), allRead P ts = true →
    DataW.TrodAll enc P W 0 (fun _ => true) true ts vs ds ps → DataW.TrodAll enc P W' 0 (fun b => decide (b < W.heap.size)) true ts vs ds ps
  | [], vs, ds, ps, _, h => by
    obtain ⟨rfl, rfl, rfl⟩ := trodAll_nil h
    exact trodAll_mk0
  | t :: ts, vs, ds, ps, hr, h => by
    obtain ⟨v, vs', d, ds', p, q, rfl, rfl, rfl, h1, h2⟩ := trodAll_cons h
    have hr' : (P.readableRec t = true ∧ t < P.types.size) ∧ allRead P ts = true := by
      unfold allRead at hr
      simpa [List.all_cons, allRead] using hr
    have lt : ∀ x ∈ p, x.block < W.heap.size := by obtain ⟨m, hm⟩ := h1; exact DataW.trod_lt m _ _ _ hm
    exact trodAll_cons_mk (Below.trod hl hr'.1.1 hr'.1.2 h1 hb lt) (trodAll_stays hl hb ts vs' ds' q hr'.2 h2)
theorem var_stays {W W' : World} (hb : Below W.heap.size W W') {n : String} {g : Nat} {cs : Array Value} (hg : P.globalNamed n = some g) (h : W.var? P n = some cs) : W'.var? P n = some cs := by
  have hlt : g < W.heap.size := by
    simp only [World.var?, hg, Option.bind_some] at h
    cases hw : W.heap[g]? with
    | none => rw [hw] at h; simp at h
    | some o => exact (Array.getElem?_eq_some_iff.1 hw).1
  simp only [World.var?, hg, Option.bind_some] at h ⊢
  rw [hb.block g hlt]
  exact h
def varsRead (P : Program) (ns : List String) : Bool := ns.all fun n => match (P.globalNamed n).bind (fun g => (P.globals[g]?).map (·.type)) with | some t => P.readableRec t && decide (t < P.types.size) | none => false
theorem trodVars_stays (hl : laidOutB P = true) {W W' : World} (hb : Below W.heap.size W W') : ∀ (ns : List String) (gs : List (DataW H)) (ps : List MemPlace), varsRead P ns = true →
    DataW.TrodVars enc P W (fun _ => true) ns gs ps → DataW.TrodVars enc P W' (fun b => decide (b < W.heap.size)) ns gs ps
  | [], gs, ps, _, h => by
    obtain ⟨rfl, rfl⟩ := trodVars_none h
    exact rfl
  | n :: ns, [], ps, _, h => by cases h
  | n :: ns, d :: gs, ps, hr, h => by
    obtain ⟨g, t, cs, fuel, p, q, h1, h2, h3, h4, h5, rfl⟩ := h
    have hr' : (P.readableRec t = true ∧ t < P.types.size) ∧ varsRead P ns = true := by
      unfold varsRead at hr
      rw [List.all_cons, Bool.and_eq_true] at hr
      have h0 := hr.1
      rw [h1, Option.bind_some, h2] at h0
      simp only [Bool.and_eq_true, decide_eq_true_eq] at h0
      exact ⟨h0, hr.2⟩
    have lt : ∀ x ∈ p, x.block < W.heap.size := DataW.trod_lt fuel _ _ _ h4
    obtain ⟨fuel', h6⟩ := Below.trod hl hr'.1.1 hr'.1.2 (v := .agg cs) (d := d) (ps := p) ⟨fuel, h4⟩ hb lt
    exact ⟨g, t, cs, fuel', p, q, h1, h2, var_stays hb h1 h3, h6, trodVars_stays hl hb ns gs q hr'.2 h5, rfl⟩
theorem trodVars_cons {W : World} {sp : Nat → Bool} {n : String} {ns : List String} {gs : List (DataW H)} {ps : List MemPlace} (h : DataW.TrodVars enc P W sp (n :: ns) gs ps) : ∃ d gs' q, gs = d :: gs' ∧ DataW.TrodVars enc P W sp ns gs' q := by
  cases gs with
  | nil => cases h
  | cons d gs' =>
    obtain ⟨g, t, cs, fuel, p, q, _, _, _, _, h5, _⟩ := h
    exact ⟨d, gs', q, rfl, h5⟩
theorem post_law {f : Func} {s : ChangeSpec} {W W' : World} {args : Array Value} {ds gs : List (DataW H)} {before : List MemPlace} {tb : TypeId} (hspec : s.fn H (ds ++ gs) = { results := [.lit (.bool true)], args := ds, vars := gs })
    (hl : laidOutB P = true) (hr : allRead P f.params.toList = true) (hv : varsRead P s.vars = true) (hres : f.resultTypes = #[tb]) (hbool : P.underlying tb = some .bool)
    (hW : DataW.Whole enc P f.params.toList s.vars false W args.toList ds gs before) (hb : Below W.heap.size W W') : s.post enc P f false true false false W args (.bool true) W' := by
  have hW' := hW
  obtain ⟨p, q, hA, hV, rfl, _, _⟩ := hW
  refine ⟨ds, gs, _, [], p, q, hW', ?_, ?_, ?_, hb.frame _, fun h => by cases h⟩
  · rw [hspec, hres]
    exact trodAll_mk1 (shut_bool hbool _)
  · rw [hspec]
    exact trodAll_stays hl hb _ _ _ _ hr hA
  · rw [hspec]
    exact trodVars_stays hl hb _ _ _ hv hV
end
end Go.Proofs.YtphklknaagjmpaaDoor.LiftL
end
section
namespace Go.Proofs.YtphklknaagjmpaaDoor.RepC
open SenC Go.RowKit RowC ValC SpanC KeptC
set_option linter.unusedVariables false
set_option linter.unusedSimpArgs false
theorem gnext_spec {d : D_Desk} {cs : List Value} {W : World} (hsz : R_Desk.sz d ≤ 1048576) (h : R_Desk.rd W W.heap.size d cs) : Calls Tryd.prog 11 #[.agg cs.toArray] W (NewV R_DeskStep (nextG d) W) := by
  obtain ⟨P, B, A, u, n⟩ := d
  obtain ⟨a0, c0, a1, c1, a2, c2, rfl, k0, k1, k2⟩ := rd_Desk h
  rw [szd_Desk2] at hsz
  exact nexttime_spec ⟨by omega, by omega, by omega⟩ k0 k1 k2
theorem gnext_impl {d : D_Desk} {cs : List Value} {W : World} {a1 a2 a3 a4 : Addr} (hS : Sent W a1 a2 a3 a4) (h : R_Desk.rd W W.heap.size d cs) : Calls Tryd.prog 7 #[.agg cs.toArray] W (NewV R_DeskStep (nextG d) W) := by
  obtain ⟨P, B, A, u, n⟩ := d
  obtain ⟨a0, c0, a1, c1, a2, c2, rfl, k0, k1, k2⟩ := rd_Desk h
  exact nexttime_impl hS k0 k1 k2
end Go.Proofs.YtphklknaagjmpaaDoor.RepC
end
section
namespace Go.Proofs.YtphklknaagjmpaaDoor.RepC
open SenC IsC Go.RowKit RowC ValC SpanC KeptC
set_option linter.unusedVariables false
set_option linter.unusedSimpArgs false
set_option maxRecDepth 100000 in
set_option maxHeartbeats 2000000 in
theorem letdown_impl {P B A : List D_Letter} {pa ba aa : Option Addr} {pc bc ac : Nat} {u n : Int} {f0 f1 t0 t1 z : Int} {W : World} {a1 a2 a3 a4 : Addr} (h : Sent W a1 a2 a3 a4) (hP : RdSl R_Letter W W.heap.size P pa pc) (hB : RdSl R_Letter W W.heap.size B ba bc) (hA : RdSl R_Letter W W.heap.size A aa ac) : Calls Tryd.prog 5 #[.agg #[.slice pa P.length pc, .slice ba B.length bc, .slice aa A.length ac, .int .i64 u, .int .i64 n], .agg #[.int .i64 f0, .int .i64 f1], .agg #[.int .i64 t0, .int .i64 t1], .int .i64 z] W (NewV R_DeskStep (letG (P, B, A, u, n) (f0, f1) (t0, t1) z) W) := by
  obtain ⟨hb0, hd0, hf0, ht0, hr0⟩ := bx4 W #[.slice pa P.length pc, .slice ba B.length bc, .slice aa A.length ac, .int .i64 u, .int .i64 n] #[.int .i64 f0, .int .i64 f1] #[.int .i64 t0, .int .i64 t1] #[.slice none 0 0, .slice none 0 0, .slice none 0 0, .int .i64 0, .int .i64 0, .int .i64 0] 25 27 27 31
  obtain ⟨w0, hw0⟩ : ∃ w, w = (((W.alloc (.cells #[.slice pa P.length pc, .slice ba B.length bc, .slice aa A.length ac, .int .i64 u, .int .i64 n] 25)).alloc (.cells #[.int .i64 f0, .int .i64 f1] 27)).alloc (.cells #[.int .i64 t0, .int .i64 t1] 27)).alloc (.cells #[.slice none 0 0, .slice none 0 0, .slice none 0 0, .int .i64 0, .int .i64 0, .int .i64 0] 31) := ⟨_, rfl⟩
  rw [← hw0] at hb0 hd0 hf0 ht0 hr0
  have HB0 := Lib.hid hb0
  have HR0 := Lib.hid hr0
  have HS0 := Lib.hid (h.mv hb0)
  have HPw := Lib.hid (gmvS hP hb0)
  have HBw := Lib.hid (gmvS hB hb0)
  have HAw := Lib.hid (gmvS hA hb0)
  have hz0 := hb0.size
  clear hb0 hd0 hf0 ht0 hr0 hP hB hA h
  obtain ⟨⟨⟨P', B', A', u', n'⟩, c'⟩, hG⟩ : ∃ r, letG (P, B, A, u, n) (f0, f1) (t0, t1) z = r := ⟨_, rfl⟩
  have HG := Lib.hid hG
  clear hG
  go_enter Tryd.func5, Tryd.ntmps5
  go_wp2_with fail
  rw [← hw0]
  clear hw0
  refine (letdown_tup HS0.out HPw.out HBw.out HAw.out).mono ?_
  intro e w1 h
  rw [HG.out] at h
  obtain ⟨us, err, rfl, hu, hb, hcase⟩ := h
  have HB1 := Lib.hid (HB0.out.trans (hb.mono hz0))
  have hz1 := HB1.out.size
  have HR1 := Lib.hid (HR0.out.call hb)
  have HS1 := Lib.hid (HS0.out.mv hb)
  have hlt1 := HR1.out.lt
  clear hb
  rcases hcase with ⟨hc, rfl⟩ | ⟨rfl, hcase⟩
  · obtain rfl : c' = 0 := hc
    obtain ⟨xa, xc, ya, yc, za, zc, rfl, hu⟩ := owc_Desk hu
    have HU := Lib.hid hu
    clear hu
    go_wp2_with fail
    refine (step_ok HU.out (fun k hk => hk.2)).mono ?_
    intro e w2 h
    obtain ⟨us, rfl, hu, hb⟩ := h
    obtain ⟨va, vc, ua, uc, ta, tc, rfl, hu⟩ := owc_DeskStep hu
    have HB2 := Lib.hid (HB1.out.trans (hb.mono hz1))
    have HR2 := Lib.hid (HR1.out.call hb)
    have qHR2_0 := HR2.out.at_ 0 rfl
    have qHR2_1 := HR2.out.at_ 1 rfl
    have qHR2_2 := HR2.out.at_ 2 rfl
    have qHR2_3 := HR2.out.at_ 3 rfl
    have qHR2_4 := HR2.out.at_ 4 rfl
    have qHR2_5 := HR2.out.at_ 5 rfl
    have sHR2_0 := HR2.out.soft 0
    have sHR2_1 := HR2.out.soft 1
    have sHR2_2 := HR2.out.soft 2
    have sHR2_3 := HR2.out.soft 3
    have sHR2_4 := HR2.out.soft 4
    have sHR2_5 := HR2.out.soft 5
    have HU2 := Lib.hid hu
    have hs2 := hb.size
    clear hu hb
    go_wp2
    refine bodyPost_ret (v := .agg #[.slice va P'.length vc, .slice ua B'.length uc, .slice ta A'.length tc, .int .i64 u', .int .i64 n', .int .i64 0]) (by simp [results, Tryd.results5, go_sem, *]) rfl ?_
    rw [HG.out]
    have hbb := ((((((HB2.out.setCell (p := ⟨W.heap.size + 1 + 1 + 1, 0, none⟩) (by show W.heap.size ≤ W.heap.size + 1 + 1 + 1; omega) (.slice va P'.length vc)).setCell (p := ⟨W.heap.size + 1 + 1 + 1, 1, none⟩) (by show W.heap.size ≤ W.heap.size + 1 + 1 + 1; omega) (.slice ua B'.length uc)).setCell (p := ⟨W.heap.size + 1 + 1 + 1, 2, none⟩) (by show W.heap.size ≤ W.heap.size + 1 + 1 + 1; omega) (.slice ta A'.length tc)).setCell (p := ⟨W.heap.size + 1 + 1 + 1, 3, none⟩) (by show W.heap.size ≤ W.heap.size + 1 + 1 + 1; omega) (.int .i64 u')).setCell (p := ⟨W.heap.size + 1 + 1 + 1, 4, none⟩) (by show W.heap.size ≤ W.heap.size + 1 + 1 + 1; omega) (.int .i64 n')).setCell (p := ⟨W.heap.size + 1 + 1 + 1, 5, none⟩) (by show W.heap.size ≤ W.heap.size + 1 + 1 + 1; omega) (.int .i64 0))
    have hoff := (((((((Off.refl (fun x => x = W.heap.size + 1 + 1 + 1) w2).setCell (p := ⟨W.heap.size + 1 + 1 + 1, 0, none⟩) (rfl) (.slice va P'.length vc)).setCell (p := ⟨W.heap.size + 1 + 1 + 1, 1, none⟩) (rfl) (.slice ua B'.length uc)).setCell (p := ⟨W.heap.size + 1 + 1 + 1, 2, none⟩) (rfl) (.slice ta A'.length tc)).setCell (p := ⟨W.heap.size + 1 + 1 + 1, 3, none⟩) (rfl) (.int .i64 u')).setCell (p := ⟨W.heap.size + 1 + 1 + 1, 4, none⟩) (rfl) (.int .i64 n')).setCell (p := ⟨W.heap.size + 1 + 1 + 1, 5, none⟩) (rfl) (.int .i64 0))
    exact ⟨_, rfl, ow_fin HU2.out hoff hs2 HR0.out.lt hz0, hbb⟩
  · rcases hcase with ⟨hr, rfl⟩ | ⟨hr, rfl⟩ | ⟨hr, rfl⟩ | ⟨hr, rfl⟩
    · have HG2 := Lib.hid (HG.out.trans hr)
      clear hr hu
      go_wp2_with fail
      refine (step_1 HS1.out).mono ?_
      intro e w2 h
      obtain ⟨us, rfl, hu, hb⟩ := newV_elim h
      obtain ⟨va, vc, ua, uc, ta, tc, rfl, hu⟩ := owc_DeskStep (L0 := []) (L1 := []) (L2 := []) (x3 := 0) (x4 := 0) (x5 := 1) hu
      have HB2 := Lib.hid (HB1.out.trans (hb.mono hz1))
      have HR2 := Lib.hid (HR1.out.call hb)
      have qHR2_0 := HR2.out.at_ 0 rfl
      have qHR2_1 := HR2.out.at_ 1 rfl
      have qHR2_2 := HR2.out.at_ 2 rfl
      have qHR2_3 := HR2.out.at_ 3 rfl
      have qHR2_4 := HR2.out.at_ 4 rfl
      have qHR2_5 := HR2.out.at_ 5 rfl
      have sHR2_0 := HR2.out.soft 0
      have sHR2_1 := HR2.out.soft 1
      have sHR2_2 := HR2.out.soft 2
      have sHR2_3 := HR2.out.soft 3
      have sHR2_4 := HR2.out.soft 4
      have sHR2_5 := HR2.out.soft 5
      have HU2 := Lib.hid hu
      clear hu hb h
      go_wp2
      refine bodyPost_ret (v := .agg #[.slice va 0 vc, .slice ua 0 uc, .slice ta 0 tc, .int .i64 0, .int .i64 0, .int .i64 1]) (by simp [results, Tryd.results5, go_sem, *]) rfl ?_
      rw [HG2.out]
      have hbb := ((((((HB2.out.setCell (p := ⟨W.heap.size + 1 + 1 + 1, 0, none⟩) (by show W.heap.size ≤ W.heap.size + 1 + 1 + 1; omega) (.slice va 0 vc)).setCell (p := ⟨W.heap.size + 1 + 1 + 1, 1, none⟩) (by show W.heap.size ≤ W.heap.size + 1 + 1 + 1; omega) (.slice ua 0 uc)).setCell (p := ⟨W.heap.size + 1 + 1 + 1, 2, none⟩) (by show W.heap.size ≤ W.heap.size + 1 + 1 + 1; omega) (.slice ta 0 tc)).setCell (p := ⟨W.heap.size + 1 + 1 + 1, 3, none⟩) (by show W.heap.size ≤ W.heap.size + 1 + 1 + 1; omega) (.int .i64 0)).setCell (p := ⟨W.heap.size + 1 + 1 + 1, 4, none⟩) (by show W.heap.size ≤ W.heap.size + 1 + 1 + 1; omega) (.int .i64 0)).setCell (p := ⟨W.heap.size + 1 + 1 + 1, 5, none⟩) (by show W.heap.size ≤ W.heap.size + 1 + 1 + 1; omega) (.int .i64 1))
      have hoff := (((((((Off.refl (fun x => x = W.heap.size + 1 + 1 + 1) w2).setCell (p := ⟨W.heap.size + 1 + 1 + 1, 0, none⟩) (rfl) (.slice va 0 vc)).setCell (p := ⟨W.heap.size + 1 + 1 + 1, 1, none⟩) (rfl) (.slice ua 0 uc)).setCell (p := ⟨W.heap.size + 1 + 1 + 1, 2, none⟩) (rfl) (.slice ta 0 tc)).setCell (p := ⟨W.heap.size + 1 + 1 + 1, 3, none⟩) (rfl) (.int .i64 0)).setCell (p := ⟨W.heap.size + 1 + 1 + 1, 4, none⟩) (rfl) (.int .i64 0)).setCell (p := ⟨W.heap.size + 1 + 1 + 1, 5, none⟩) (rfl) (.int .i64 1))
      exact ⟨_, rfl, ow_fin HU2.out hoff (Nat.le_refl _) HR1.out.lt hz1, hbb⟩
    · have HG2 := Lib.hid (HG.out.trans hr)
      clear hr hu
      go_wp2_with fail
      refine (step_2 HS1.out).mono ?_
      intro e w2 h
      obtain ⟨us, rfl, hu, hb⟩ := newV_elim h
      obtain ⟨va, vc, ua, uc, ta, tc, rfl, hu⟩ := owc_DeskStep (L0 := []) (L1 := []) (L2 := []) (x3 := 0) (x4 := 0) (x5 := 11) hu
      have HB2 := Lib.hid (HB1.out.trans (hb.mono hz1))
      have HR2 := Lib.hid (HR1.out.call hb)
      have qHR2_0 := HR2.out.at_ 0 rfl
      have qHR2_1 := HR2.out.at_ 1 rfl
      have qHR2_2 := HR2.out.at_ 2 rfl
      have qHR2_3 := HR2.out.at_ 3 rfl
      have qHR2_4 := HR2.out.at_ 4 rfl
      have qHR2_5 := HR2.out.at_ 5 rfl
      have sHR2_0 := HR2.out.soft 0
      have sHR2_1 := HR2.out.soft 1
      have sHR2_2 := HR2.out.soft 2
      have sHR2_3 := HR2.out.soft 3
      have sHR2_4 := HR2.out.soft 4
      have sHR2_5 := HR2.out.soft 5
      have HU2 := Lib.hid hu
      clear hu hb h
      go_wp2
      refine bodyPost_ret (v := .agg #[.slice va 0 vc, .slice ua 0 uc, .slice ta 0 tc, .int .i64 0, .int .i64 0, .int .i64 11]) (by simp [results, Tryd.results5, go_sem, *]) rfl ?_
      rw [HG2.out]
      have hbb := ((((((HB2.out.setCell (p := ⟨W.heap.size + 1 + 1 + 1, 0, none⟩) (by show W.heap.size ≤ W.heap.size + 1 + 1 + 1; omega) (.slice va 0 vc)).setCell (p := ⟨W.heap.size + 1 + 1 + 1, 1, none⟩) (by show W.heap.size ≤ W.heap.size + 1 + 1 + 1; omega) (.slice ua 0 uc)).setCell (p := ⟨W.heap.size + 1 + 1 + 1, 2, none⟩) (by show W.heap.size ≤ W.heap.size + 1 + 1 + 1; omega) (.slice ta 0 tc)).setCell (p := ⟨W.heap.size + 1 + 1 + 1, 3, none⟩) (by show W.heap.size ≤ W.heap.size + 1 + 1 + 1; omega) (.int .i64 0)).setCell (p := ⟨W.heap.size + 1 + 1 + 1, 4, none⟩) (by show W.heap.size ≤ W.heap.size + 1 + 1 + 1; omega) (.int .i64 0)).setCell (p := ⟨W.heap.size + 1 + 1 + 1, 5, none⟩) (by show W.heap.size ≤ W.heap.size + 1 + 1 + 1; omega) (.int .i64 11))
      have hoff := (((((((Off.refl (fun x => x = W.heap.size + 1 + 1 + 1) w2).setCell (p := ⟨W.heap.size + 1 + 1 + 1, 0, none⟩) (rfl) (.slice va 0 vc)).setCell (p := ⟨W.heap.size + 1 + 1 + 1, 1, none⟩) (rfl) (.slice ua 0 uc)).setCell (p := ⟨W.heap.size + 1 + 1 + 1, 2, none⟩) (rfl) (.slice ta 0 tc)).setCell (p := ⟨W.heap.size + 1 + 1 + 1, 3, none⟩) (rfl) (.int .i64 0)).setCell (p := ⟨W.heap.size + 1 + 1 + 1, 4, none⟩) (rfl) (.int .i64 0)).setCell (p := ⟨W.heap.size + 1 + 1 + 1, 5, none⟩) (rfl) (.int .i64 11))
      exact ⟨_, rfl, ow_fin HU2.out hoff (Nat.le_refl _) HR1.out.lt hz1, hbb⟩
    · have HG2 := Lib.hid (HG.out.trans hr)
      clear hr hu
      go_wp2_with fail
      refine (step_3 HS1.out).mono ?_
      intro e w2 h
      obtain ⟨us, rfl, hu, hb⟩ := newV_elim h
      obtain ⟨va, vc, ua, uc, ta, tc, rfl, hu⟩ := owc_DeskStep (L0 := []) (L1 := []) (L2 := []) (x3 := 0) (x4 := 0) (x5 := 8) hu
      have HB2 := Lib.hid (HB1.out.trans (hb.mono hz1))
      have HR2 := Lib.hid (HR1.out.call hb)
      have qHR2_0 := HR2.out.at_ 0 rfl
      have qHR2_1 := HR2.out.at_ 1 rfl
      have qHR2_2 := HR2.out.at_ 2 rfl
      have qHR2_3 := HR2.out.at_ 3 rfl
      have qHR2_4 := HR2.out.at_ 4 rfl
      have qHR2_5 := HR2.out.at_ 5 rfl
      have sHR2_0 := HR2.out.soft 0
      have sHR2_1 := HR2.out.soft 1
      have sHR2_2 := HR2.out.soft 2
      have sHR2_3 := HR2.out.soft 3
      have sHR2_4 := HR2.out.soft 4
      have sHR2_5 := HR2.out.soft 5
      have HU2 := Lib.hid hu
      clear hu hb h
      go_wp2
      refine bodyPost_ret (v := .agg #[.slice va 0 vc, .slice ua 0 uc, .slice ta 0 tc, .int .i64 0, .int .i64 0, .int .i64 8]) (by simp [results, Tryd.results5, go_sem, *]) rfl ?_
      rw [HG2.out]
      have hbb := ((((((HB2.out.setCell (p := ⟨W.heap.size + 1 + 1 + 1, 0, none⟩) (by show W.heap.size ≤ W.heap.size + 1 + 1 + 1; omega) (.slice va 0 vc)).setCell (p := ⟨W.heap.size + 1 + 1 + 1, 1, none⟩) (by show W.heap.size ≤ W.heap.size + 1 + 1 + 1; omega) (.slice ua 0 uc)).setCell (p := ⟨W.heap.size + 1 + 1 + 1, 2, none⟩) (by show W.heap.size ≤ W.heap.size + 1 + 1 + 1; omega) (.slice ta 0 tc)).setCell (p := ⟨W.heap.size + 1 + 1 + 1, 3, none⟩) (by show W.heap.size ≤ W.heap.size + 1 + 1 + 1; omega) (.int .i64 0)).setCell (p := ⟨W.heap.size + 1 + 1 + 1, 4, none⟩) (by show W.heap.size ≤ W.heap.size + 1 + 1 + 1; omega) (.int .i64 0)).setCell (p := ⟨W.heap.size + 1 + 1 + 1, 5, none⟩) (by show W.heap.size ≤ W.heap.size + 1 + 1 + 1; omega) (.int .i64 8))
      have hoff := (((((((Off.refl (fun x => x = W.heap.size + 1 + 1 + 1) w2).setCell (p := ⟨W.heap.size + 1 + 1 + 1, 0, none⟩) (rfl) (.slice va 0 vc)).setCell (p := ⟨W.heap.size + 1 + 1 + 1, 1, none⟩) (rfl) (.slice ua 0 uc)).setCell (p := ⟨W.heap.size + 1 + 1 + 1, 2, none⟩) (rfl) (.slice ta 0 tc)).setCell (p := ⟨W.heap.size + 1 + 1 + 1, 3, none⟩) (rfl) (.int .i64 0)).setCell (p := ⟨W.heap.size + 1 + 1 + 1, 4, none⟩) (rfl) (.int .i64 0)).setCell (p := ⟨W.heap.size + 1 + 1 + 1, 5, none⟩) (rfl) (.int .i64 8))
      exact ⟨_, rfl, ow_fin HU2.out hoff (Nat.le_refl _) HR1.out.lt hz1, hbb⟩
    · have HG2 := Lib.hid (HG.out.trans hr)
      clear hr hu
      go_wp2_with fail
      refine (step_4 HS1.out).mono ?_
      intro e w2 h
      obtain ⟨us, rfl, hu, hb⟩ := newV_elim h
      obtain ⟨va, vc, ua, uc, ta, tc, rfl, hu⟩ := owc_DeskStep (L0 := []) (L1 := []) (L2 := []) (x3 := 0) (x4 := 0) (x5 := 9) hu
      have HB2 := Lib.hid (HB1.out.trans (hb.mono hz1))
      have HR2 := Lib.hid (HR1.out.call hb)
      have qHR2_0 := HR2.out.at_ 0 rfl
      have qHR2_1 := HR2.out.at_ 1 rfl
      have qHR2_2 := HR2.out.at_ 2 rfl
      have qHR2_3 := HR2.out.at_ 3 rfl
      have qHR2_4 := HR2.out.at_ 4 rfl
      have qHR2_5 := HR2.out.at_ 5 rfl
      have sHR2_0 := HR2.out.soft 0
      have sHR2_1 := HR2.out.soft 1
      have sHR2_2 := HR2.out.soft 2
      have sHR2_3 := HR2.out.soft 3
      have sHR2_4 := HR2.out.soft 4
      have sHR2_5 := HR2.out.soft 5
      have HU2 := Lib.hid hu
      clear hu hb h
      go_wp2
      refine bodyPost_ret (v := .agg #[.slice va 0 vc, .slice ua 0 uc, .slice ta 0 tc, .int .i64 0, .int .i64 0, .int .i64 9]) (by simp [results, Tryd.results5, go_sem, *]) rfl ?_
      rw [HG2.out]
      have hbb := ((((((HB2.out.setCell (p := ⟨W.heap.size + 1 + 1 + 1, 0, none⟩) (by show W.heap.size ≤ W.heap.size + 1 + 1 + 1; omega) (.slice va 0 vc)).setCell (p := ⟨W.heap.size + 1 + 1 + 1, 1, none⟩) (by show W.heap.size ≤ W.heap.size + 1 + 1 + 1; omega) (.slice ua 0 uc)).setCell (p := ⟨W.heap.size + 1 + 1 + 1, 2, none⟩) (by show W.heap.size ≤ W.heap.size + 1 + 1 + 1; omega) (.slice ta 0 tc)).setCell (p := ⟨W.heap.size + 1 + 1 + 1, 3, none⟩) (by show W.heap.size ≤ W.heap.size + 1 + 1 + 1; omega) (.int .i64 0)).setCell (p := ⟨W.heap.size + 1 + 1 + 1, 4, none⟩) (by show W.heap.size ≤ W.heap.size + 1 + 1 + 1; omega) (.int .i64 0)).setCell (p := ⟨W.heap.size + 1 + 1 + 1, 5, none⟩) (by show W.heap.size ≤ W.heap.size + 1 + 1 + 1; omega) (.int .i64 9))
      have hoff := (((((((Off.refl (fun x => x = W.heap.size + 1 + 1 + 1) w2).setCell (p := ⟨W.heap.size + 1 + 1 + 1, 0, none⟩) (rfl) (.slice va 0 vc)).setCell (p := ⟨W.heap.size + 1 + 1 + 1, 1, none⟩) (rfl) (.slice ua 0 uc)).setCell (p := ⟨W.heap.size + 1 + 1 + 1, 2, none⟩) (rfl) (.slice ta 0 tc)).setCell (p := ⟨W.heap.size + 1 + 1 + 1, 3, none⟩) (rfl) (.int .i64 0)).setCell (p := ⟨W.heap.size + 1 + 1 + 1, 4, none⟩) (rfl) (.int .i64 0)).setCell (p := ⟨W.heap.size + 1 + 1 + 1, 5, none⟩) (rfl) (.int .i64 9))
      exact ⟨_, rfl, ow_fin HU2.out hoff (Nat.le_refl _) HR1.out.lt hz1, hbb⟩
theorem gletdown_spec {d : D_Desk} {cs : List Value} {f0 f1 t0 t1 z : Int} {W : World} (hsz : R_Desk.sz d ≤ 1048576) (h : R_Desk.rd W W.heap.size d cs) : Calls Tryd.prog 10 #[.agg cs.toArray, .agg #[.int .i64 f0, .int .i64 f1], .agg #[.int .i64 t0, .int .i64 t1], .int .i64 z] W (NewV R_DeskStep (letG d (f0, f1) (t0, t1) z) W) := by
  obtain ⟨P, B, A, u, n⟩ := d
  obtain ⟨a0, c0, a1, c1, a2, c2, rfl, k0, k1, k2⟩ := rd_Desk h
  rw [szd_Desk2] at hsz
  exact letdown_spec ⟨by omega, by omega, by omega⟩ k0 k1 k2
theorem gletdown_impl {d : D_Desk} {cs : List Value} {f0 f1 t0 t1 z : Int} {W : World} {a1 a2 a3 a4 : Addr} (hS : Sent W a1 a2 a3 a4) (h : R_Desk.rd W W.heap.size d cs) : Calls Tryd.prog 5 #[.agg cs.toArray, .agg #[.int .i64 f0, .int .i64 f1], .agg #[.int .i64 t0, .int .i64 t1], .int .i64 z] W (NewV R_DeskStep (letG d (f0, f1) (t0, t1) z) W) := by
  obtain ⟨P, B, A, u, n⟩ := d
  obtain ⟨a0, c0, a1, c1, a2, c2, rfl, k0, k1, k2⟩ := rd_Desk h
  exact letdown_impl hS k0 k1 k2
end Go.Proofs.YtphklknaagjmpaaDoor.RepC
end
section
namespace Go.Proofs.YtphklknaagjmpaaDoor.DrawC
def regionOf (n : Nat) : Code → Option Code
  | .region id ops d => bif Nat.beq id n then some (.region id ops d) else none
  | .seq a b => match regionOf n a with
    | some c => some c
    | none => regionOf n b
  | .block _ c => regionOf n c
  | .scope c => regionOf n c
  | .loop c => regionOf n c
  | .cond _ a b => match regionOf n a with
    | some c => some c
    | none => regionOf n b
  | _ => none
end Go.Proofs.YtphklknaagjmpaaDoor.DrawC
end
