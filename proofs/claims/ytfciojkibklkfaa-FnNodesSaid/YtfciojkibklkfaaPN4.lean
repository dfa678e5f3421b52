/- Of this claim's texts the part 4: NdB2 NdLw NdMa NdT1 NdZ2. -/
import Derived.LoopTactic
import Derived.Deep.QuietTactic
import Derived.Test.YtfciojkibklkfaaPN3
section
namespace Go.Proofs.Ytfciojkibklkfaa.RepC
open Go.RowKit RowC ValC SpanC KeptC DrawC
set_option linter.unusedVariables false
set_option linter.unusedSimpArgs false
def DrawnNS (w : World) (e : Ending) (w' : World) : Prop := ∃ (a : Option Addr) (c : Nat) (L : List D_Node) (n st : Int), e = .returned (.tuple #[.slice a L.length c, .int .i64 n, .int .i64 st]) ∧ RdSl R_Node w' w'.heap.size L a c ∧ (L.length ≤ 7 ∧ ∀ x ∈ L, x.2.length ≤ 21) ∧ Below w.heap.size w w'
theorem drawnNS_elim {w : World} {e : Ending} {w' : World} (h : DrawnNS w e w') : ∃ (a : Option Addr) (c : Nat) (L : List D_Node) (n st : Int), e = .returned (.tuple #[.slice a L.length c, .int .i64 n, .int .i64 st]) ∧ RdSl R_Node w' w'.heap.size L a c ∧ (L.length ≤ 7 ∧ ∀ x ∈ L, x.2.length ≤ 21) ∧ Below w.heap.size w w' := h
def DrawnBP (w : World) (e : Ending) (w' : World) : Prop := ∃ (a : Option Addr) (c : Nat) (L : List D_Node) (n x0 x1 now : Int), e = .returned (.tuple #[.slice a L.length c, .int .i64 n, .agg #[.int .i64 x0, .int .i64 x1], .int .i64 now]) ∧ RdSl R_Node w' w'.heap.size L a c ∧ (L.length ≤ 7 ∧ ∀ x ∈ L, x.2.length ≤ 21) ∧ Below w.heap.size w w'
theorem drawnBP_elim {w : World} {e : Ending} {w' : World} (h : DrawnBP w e w') : ∃ (a : Option Addr) (c : Nat) (L : List D_Node) (n x0 x1 now : Int), e = .returned (.tuple #[.slice a L.length c, .int .i64 n, .agg #[.int .i64 x0, .int .i64 x1], .int .i64 now]) ∧ RdSl R_Node w' w'.heap.size L a c ∧ (L.length ≤ 7 ∧ ∀ x ∈ L, x.2.length ≤ 21) ∧ Below w.heap.size w w' := h
set_option maxRecDepth 100000 in
set_option maxHeartbeats 3200000 in
theorem draw_nodeset (b : Option Addr) (len cap : Nat) (w : World) (hlen : len ≤ 1048576) (h : CodeIn w b len) :
    Calls Try.prog 15 #[.slice b len cap] w (DrawnNS w) := by
  have HC := Lib.hid h
  clear h
  go_enter Try.func15, Try.ntmps15
  go_wp2_with fail
  refine (source_any b len cap _ hlen HC.out).mono ?_
  rintro e w1 ⟨rfl, hs, hb⟩
  obtain ⟨gs, hgs⟩ : ∃ g, w.heap.size = g := ⟨_, rfl⟩
  have HB1 := Lib.hid hb
  have HGS := Lib.hid hgs
  have hgs2 := hgs
  rw [hgs] at hs
  have HS1 := Lib.hid hs
  have hlt1 := hs.lt
  rw [hgs]
  clear hs hb
  go_wp2_with fail
  refine (n_any gs b len cap 4 _ HS1.out (by omega)).mono ?_
  rintro e w2 ⟨x1, rfl, px1, qx1, hs, hb⟩
  have HB2 := Lib.hid (HB1.out.trans (hb.below (B := w.heap.size) HB1.out.size (by omega)))
  have HS2 := Lib.hid hs
  clear hs hb HS1 HB1 
  have hw1 : IntKind.i64.wrap (1 + x1) = 1 + x1 := IntWalk.i64_in _ (by omega)
  have hz2 := HB2.out.size
  clear hgs
  go_wp2_with fail
  refine (nodes_any gs b len cap (1 + x1) 0 _ HS2.out ⟨by omega, by omega⟩).mono ?_
  intro e w3 h
  obtain ⟨a, c, L, rfl, hA, hsm, hs, hb⟩ := drawnNd_elim h
  have hz22 := HS2.out.lt
  have HV3 := Lib.hid hA
  have HSM := Lib.hid hsm
  have HB3 := Lib.hid (HB2.out.trans (hb.below (B := w.heap.size) HB2.out.size (by omega)))
  have HS3 := Lib.hid hs
  clear h hA hsm hs hb HS2 HB2
  go_wp2_with fail
  refine (n_any gs b len cap 5 _ HS3.out (by omega)).mono ?_
  rintro e w4 ⟨x3, rfl, px3, qx3, hs, hb⟩
  have HB4 := Lib.hid (HB3.out.trans (hb.below (B := w.heap.size) HB3.out.size (by omega)))
  have HV4 := Lib.hid (HV3.out.but hb (by omega))
  have HS4 := Lib.hid hs
  clear hs hb HS3 HB3 HV3
  go_wp2_with fail
  refine (one_any gs b len cap 12 _ HS4.out (by omega)).mono ?_
  rintro e w5 ⟨zb, rfl, hs, hb⟩
  have HB5 := Lib.hid (HB4.out.trans (hb.below (B := w.heap.size) HB4.out.size (by omega)))
  have HV5 := Lib.hid (HV4.out.but hb (by omega))
  have HS5 := Lib.hid hs
  clear hs hb HS4 HB4 HV4
  cases zb with
  | true =>
    go_wp2_with fail
    refine (edge_any gs b len cap _ HS5.out).mono ?_
    rintro e w6 ⟨x5, rfl, px5, qx5, hs, hb⟩
    have HB6 := Lib.hid (HB5.out.trans (hb.below (B := w.heap.size) HB5.out.size (by omega)))
    have HV6 := Lib.hid (HV5.out.but hb (by omega))
    have HS6 := Lib.hid hs
    clear hs hb HS5 HB5 HV5
    go_wp2_with fail
    refine (n_any gs b len cap 5 _ HS6.out (by omega)).mono ?_
    rintro e w7 ⟨x6, rfl, px6, qx6, hs, hb⟩
    have HB7 := Lib.hid (HB6.out.trans (hb.below (B := w.heap.size) HB6.out.size (by omega)))
    have HV7 := Lib.hid (HV6.out.but hb (by omega))
    have HS7 := Lib.hid hs
    clear hs hb HS6 HB6 HV6
    go_wp2
    refine bodyPost_ret (v := .tuple #[.slice a L.length c, .int .i64 x5, .int .i64 x6]) (by simp [results, Try.results15, go_sem, *]) rfl ?_
    exact ⟨a, c, L, x5, x6, rfl, HV7.out.rd, HSM.out, HB7.out⟩
  | false =>
    go_wp2_with fail
    refine (n_any gs b len cap 3 _ HS5.out (by omega)).mono ?_
    rintro e w6 ⟨x5, rfl, px5, qx5, hs, hb⟩
    have HB6 := Lib.hid (HB5.out.trans (hb.below (B := w.heap.size) HB5.out.size (by omega)))
    have HV6 := Lib.hid (HV5.out.but hb (by omega))
    have HS6 := Lib.hid hs
    clear hs hb HS5 HB5 HV5
    have hw5 : IntKind.i64.wrap (1 + x5) = 1 + x5 := IntWalk.i64_in _ (by omega)
    go_wp2
    refine bodyPost_ret (v := .tuple #[.slice a L.length c, .int .i64 x3, .int .i64 (1 + x5)]) (by simp [results, Try.results15, go_sem, *]) rfl ?_
    exact ⟨a, c, L, x3, 1 + x5, rfl, HV6.out.rd, HSM.out, HB6.out⟩
theorem tab3' {v a b c : Int} (h0 : 0 ≤ v) (h1 : v < 3 ∨ v = 0) : ∃ (k : Nat) (z : Int), v = (k : Int) ∧ k < 3 ∧ (#[.int .i64 a, .int .i64 b, .int .i64 c] : Array Value)[k]? = some (.int .i64 z) := by
  have : v = 0 ∨ v = 1 ∨ v = 2 := by omega
  rcases this with rfl | rfl | rfl
  · exact ⟨0, a, rfl, by omega, rfl⟩
  · exact ⟨1, b, rfl, by omega, rfl⟩
  · exact ⟨2, c, rfl, by omega, rfl⟩
def VN (gs : Nat) (w : World) (lo hi : Nat) (L : List D_Node) (a : Option Addr) (c : Nat) : Prop := OwSl R_Node w (Rg lo hi) L a c ∧ gs < lo ∧ hi ≤ w.heap.size
section
variable {gs : Nat} {w w' : World} {lo hi : Nat} {L : List D_Node} {a : Option Addr} {c : Nat}
theorem VN.but (h : VN gs w lo hi L a c) (hb : But gs w w') (_ : (0 : Nat) ≤ 0) : VN gs w' lo hi L a c :=
  ⟨h.1.keep R_Node_ok fun k hk => hb.block k (by have := hk.2; have := h.2.2; omega) (by have := hk.1; have := h.2.1; omega), h.2.1, Nat.le_trans h.2.2 hb.size⟩
theorem VN.set (h : VN gs w lo hi L a c) {b : Nat} (hb : hi ≤ b) (o : Nat) (u : Value) : VN gs (w.setCell ⟨b, o, none⟩ u) lo hi L a c :=
  ⟨h.1.keep R_Node_ok fun k hk => Below.heap_setCell w ⟨b, o, none⟩ u k (show k ≠ b by have := hk.2; omega), h.2.1, by simpa using h.2.2⟩
theorem VN.set' (h : VN gs w lo hi L a c) {b : Nat} (hb : b < lo) (o : Nat) (u : Value) : VN gs (w.setCell ⟨b, o, none⟩ u) lo hi L a c :=
  ⟨h.1.keep R_Node_ok fun k hk => Below.heap_setCell w ⟨b, o, none⟩ u k (show k ≠ b by have := hk.1; omega), h.2.1, by simpa using h.2.2⟩
theorem VN.rd (h : VN gs w lo hi L a c) : RdSl R_Node w w.heap.size L a c :=
  h.1.rd R_Node_ok fun k hk => Nat.lt_of_lt_of_le hk.2 h.2.2
theorem VN.of {v : Value} (h : ARow R_Node w lo 42 v L) (hl : gs < lo) (hv : v = .slice a L.length c) : VN gs w lo w.heap.size L a c := by
  obtain ⟨S, h⟩ := h
  obtain ⟨a', c', e, ho⟩ := h.done R_Node_ok
  rw [hv] at e
  cases e
  exact ⟨ho, hl, Nat.le_refl _⟩
end
set_option maxRecDepth 100000 in
set_option maxHeartbeats 6400000 in
theorem draw_bookput (b : Option Addr) (len cap : Nat) (w : World) (hlen : len ≤ 1048576) (h : CodeIn w b len) :
    Calls Try.prog 12 #[.slice b len cap] w (DrawnBP w) := by
  obtain ⟨W0, hW0⟩ : ∃ x, x = w.alloc (.cells #[.int .i64 0, .int .i64 0] 25) := ⟨_, rfl⟩
  have hb0 : Below w.heap.size w W0 := by rw [hW0]; exact (Below.refl _ _).alloc (Nat.le_refl _) _
  have HC := Lib.hid (h.below hb0)
  have HR0 := Lib.hid (show Blk W0 w.heap.size 25 #[.int .i64 0, .int .i64 0] from hW0 ▸ Blk.new _ _ _)
  have HB0 := Lib.hid hb0
  have hsz0 : w.heap.size < W0.heap.size := by rw [hW0]; simp
  clear h hb0
  go_enter Try.func12, Try.ntmps12
  go_wp2_with fail
  rw [← hW0]
  clear hW0
  refine (source_any b len cap _ hlen HC.out).mono ?_
  rintro e w1 ⟨rfl, hs, hb⟩
  obtain ⟨gs, hgs⟩ : ∃ g, W0.heap.size = g := ⟨_, rfl⟩
  have HB1 := Lib.hid (HB0.out.trans (hb.mono (by omega)))
  have HR1 := Lib.hid (HR0.out.call hb)
  rw [hgs] at hs
  have HS1 := Lib.hid hs
  have hlt1 := hs.lt
  have hgw : w.heap.size < gs := by omega
  rw [hgs]
  clear hs hb HR0 HB0
  go_wp2_with fail
  refine (n_any gs b len cap 4 _ HS1.out (by omega)).mono ?_
  rintro e w2 ⟨now, rfl, pnow, qnow, hs, hb⟩
  have HB2 := Lib.hid (HB1.out.trans (hb.below (B := w.heap.size) HB1.out.size (by omega)))
  have HR2 := Lib.hid (blkBut HR1.out hb (by omega))
  have HS2 := Lib.hid hs
  clear hs hb HS1 HB1 HR1
  go_wp2_with fail
  refine (n_any gs b len cap 2 _ HS2.out (by omega)).mono ?_
  rintro e w3 ⟨x1, rfl, px1, qx1, hs, hb⟩
  have HB3 := Lib.hid (HB2.out.trans (hb.below (B := w.heap.size) HB2.out.size (by omega)))
  have HR3 := Lib.hid (blkBut HR2.out hb (by omega))
  have HS3 := Lib.hid hs
  clear hs hb HS2 HB2 HR2
  have hw1 : IntKind.i64.wrap (1 + x1) = 1 + x1 := IntWalk.i64_in _ (by omega)
  have hz3 := HB3.out.size
  have hrz3 := HR3.out.lt
  clear hgs
  go_wp2_with fail
  refine (nodes_any gs b len cap (1 + x1) now _ HS3.out ⟨by omega, by omega⟩).mono ?_
  intro e w4 h
  obtain ⟨a, c, L, rfl, hA, hsm, hs, hb⟩ := drawnNd_elim h
  have hz33 := HS3.out.lt
  obtain ⟨g3, hg3⟩ : ∃ g, w3.heap.size = g := ⟨_, rfl⟩
  obtain ⟨g4, hg4⟩ : ∃ g, w4.heap.size = g := ⟨_, rfl⟩
  have HV4 := Lib.hid (show VN gs w4 g3 g4 L a c from by rw [← hg3, ← hg4]; exact VN.of hA hz33 rfl)
  have hg34 : g3 ≤ g4 := by have := hb.size; omega
  have hrg3 : w.heap.size < g3 := by omega
  have hgg4 : gs < g4 := by omega
  have HSM := Lib.hid hsm
  have HR4 := Lib.hid (blkBut HR3.out hb (by omega))
  have HB4 := Lib.hid (HB3.out.trans (hb.below (B := w.heap.size) HB3.out.size (by omega)))
  have HS4 := Lib.hid hs
  clear h hA hsm hs hb HS3 HB3 HR3
  go_wp2_with fail
  refine (n_any gs b len cap 20 _ HS4.out (by omega)).mono ?_
  rintro e w5 ⟨x2, rfl, px2, qx2, hs, hb⟩
  have HB5 := Lib.hid (HB4.out.trans (hb.below (B := w.heap.size) HB4.out.size (by omega)))
  have HV5 := Lib.hid (HV4.out.but hb (by omega))
  have HR5 := Lib.hid (blkBut HR4.out hb (by omega))
  have HS5 := Lib.hid hs
  clear hs hb HS4 HB4 HV4 HR4
  have hw2 : IntKind.i64.wrap (now + x2) = now + x2 := IntWalk.i64_in _ (by omega)
  have hw3 : IntKind.i64.wrap (now + x2 + 1) = now + x2 + 1 := IntWalk.i64_in _ (by omega)
  go_wp2_with fail
  refine (n_any gs b len cap 6 _ HS5.out (by omega)).mono ?_
  rintro e w6 ⟨x3, rfl, px3, qx3, hs, hb⟩
  have HB6 := Lib.hid (HB5.out.trans (hb.below (B := w.heap.size) HB5.out.size (by omega)))
  have HV6 := Lib.hid (HV5.out.but hb (by omega))
  have HR6 := Lib.hid (blkBut HR5.out hb (by omega))
  have HS6 := Lib.hid hs
  clear hs hb HS5 HB5 HV5 HR5
  have hw4 : IntKind.i64.wrap (now + x2 + 1 + x3) = now + x2 + 1 + x3 := IntWalk.i64_in _ (by omega)
  have hz6 := HB6.out.size
  have hv6l := HV6.out.2.2
  have hs6l := HS6.out.lt
  have hr6l := HR6.out.lt
  obtain ⟨w7, hw7⟩ : ∃ x, x = w6.alloc (.cells #[.int .i64 (now + x2), .int .i64 (now + x2 + 1 + x3)] 25) := ⟨_, rfl⟩
  obtain ⟨gx, hgx⟩ : ∃ g, w6.heap.size = g := ⟨_, rfl⟩
  have hbA : But gs w6 w7 := by rw [hw7]; exact (But.refl _ _).alloc _
  have HX7 := Lib.hid (show Blk w7 gx 25 #[.int .i64 (now + x2), .int .i64 (now + x2 + 1 + x3)] from by rw [hw7, ← hgx]; exact Blk.new _ _ _)
  have HB7 := Lib.hid (HB6.out.trans (hbA.below (B := w.heap.size) HB6.out.size (by omega)))
  have HV7 := Lib.hid (HV6.out.but hbA (by omega))
  have HR7 := Lib.hid (blkBut HR6.out hbA (by omega))
  have HS7 := Lib.hid (show Src gs b len cap w7 from by rw [hw7]; exact HS6.out.alloc _)
  have hxg : gx ≠ gs := by omega
  have hxr : gx ≠ w.heap.size := by omega
  have hgx4 : g4 ≤ gx := by omega
  clear hbA HB6 HV6 HR6 HS6
  go_wp2_with fail
  rw [← hw7]
  clear hw7
  refine (n_any gs b len cap 12 _ HS7.out (by omega)).mono ?_
  rintro e w8 ⟨x4, rfl, px4, qx4, hs, hb⟩
  have HB8 := Lib.hid (HB7.out.trans (hb.below (B := w.heap.size) HB7.out.size (by omega)))
  have HV8 := Lib.hid (HV7.out.but hb (by omega))
  have HR8 := Lib.hid (blkBut HR7.out hb (by omega))
  have HX8 := Lib.hid (blkBut HX7.out hb (by omega))
  have HS8 := Lib.hid hs
  clear hs hb HS7 HB7 HV7 HR7 HX7
  by_cases h0 : x4 = 0
  · have hq : (x4 == 0) = true := beq_iff_eq.2 h0
    clear h0
    have hw40 : IntKind.i64.wrap (now + 40) = now + 40 := IntWalk.i64_in _ (by omega)
    go_wp2_with fail
    refine (n_any gs b len cap 2 _ HS8.out (by omega)).mono ?_
    rintro e w9 ⟨x5, rfl, px5, qx5, hs, hb⟩
    have HB9 := Lib.hid (HB8.out.trans (hb.below (B := w.heap.size) HB8.out.size (by omega)))
    have HV9 := Lib.hid (HV8.out.but hb (by omega))
    have HR9 := Lib.hid (blkBut HR8.out hb (by omega))
    have HX9 := Lib.hid (blkBut HX8.out hb (by omega))
    have HS9 := Lib.hid hs
    clear hs hb HS8 HB8 HV8 HR8 HX8
    have hw5 : IntKind.i64.wrap (now + 40 + x5) = now + 40 + x5 := IntWalk.i64_in _ (by omega)
    have hxl9 := HX9.out.lt
    have hrl9 := HR9.out.lt
    have hsl9 := HS9.out.lt
    have x1c := HX9.out.at_ 1 rfl
    have x1s := HX9.out.soft 1
    obtain ⟨w10, hw10⟩ : ∃ x, x = w9.setCell ⟨gx, 1, none⟩ (.int .i64 (now + 40 + x5)) := ⟨_, rfl⟩
    have HX10 := Lib.hid (show Blk w10 gx 25 #[.int .i64 (now + x2), .int .i64 (now + 40 + x5)] from by rw [hw10]; exact (HX9.out.set 1 _).as rfl)
    have HR10 := Lib.hid (show Blk w10 w.heap.size 25 #[.int .i64 0, .int .i64 0] from by rw [hw10]; exact (HR9.out.far (fun e => hxr e.symm) _))
    have HB10 := Lib.hid (show Below w.heap.size w w10 from by rw [hw10]; exact (HB9.out.setCell (p := ⟨gx, 1, none⟩) (show w.heap.size ≤ gx by omega) _))
    have HS10 := Lib.hid (show Src gs b len cap w10 from by rw [hw10]; exact (srcSet HS9.out (p := ⟨gx, 1, none⟩) (show gs < gx by omega) _))
    have HV10 := Lib.hid (show VN gs w10 g3 g4 L a c from by rw [hw10]; exact (HV9.out.set hgx4 _ _))
    rw [hw10] at HX10 HR10 HB10 HS10 HV10
    clear HX9 HR9 HB9 HS9 HV9 hw10
    clear hxl9 hrl9 hsl9
    have x0 := HX10.out.at_ 0 rfl
    have x1_ := HX10.out.at_ 1 rfl
    have HSX := Lib.hid (And.intro x0 x1_)
    have hxl := HX10.out.lt
    have hrl := HR10.out.lt
    clear x0 x1_
    go_upto_region 13 with fail
    refine wp_region_held_drew (S := (fun V => V.cell? ⟨gx, 0, none⟩ = some (.int .i64 (now + x2)) ∧ V.cell? ⟨gx, 1, none⟩ = some (.int .i64 (now + 40 + x5)))) (by kernel_rfl) (HSX.out) (fun hHeld => ?_)
    refine tk 0 hHeld ?_
    refine tk 1 hHeld ?_
    refine tk 3 hHeld ?_ (hy := fun w hSw => by (try dsimp only at hSw); have k0 := hSw.1; have k1 := hSw.2; clear hSw; go_simp; try with_reducible rfl)
    refine tk 4 hHeld ?_
    refine rd1 2 (fun K hK => ?_)
    go_simp
    go_at_call 46
    refine (n_any gs b len cap 3 _ (srcDrew HS10.out) (by omega)).mono ?_
    rintro e w30 ⟨xn, rfl, pn, qn, hs, hb⟩
    have hb := (But.refl gs _).drew.trans hb
    have HB30 := Lib.hid (HB10.out.trans (hb.below (B := w.heap.size) HB10.out.size (by omega)))
    have HV30 := Lib.hid (HV10.out.but hb (by omega))
    have HX30 := Lib.hid (blkBut HX10.out hb hxg)
    have HR30 := Lib.hid (blkBut HR10.out hb (by omega))
    have q0 := HR30.out.at_ 0 rfl
    have q1 := HR30.out.at_ 1 rfl
    have s0 := HR30.out.soft 0
    have s1 := HR30.out.soft 1
    have SX := Lib.hid (And.intro (HX30.out.at_ 0 rfl) (HX30.out.at_ 1 rfl))
    have hx9 := (HX30.out.far (b := w.heap.size) (o := 0) hxr (.int .i64 (now + x2))).far (b := w.heap.size) (o := 1) hxr (.int .i64 (now + 40 + x5))
    have SX2 := Lib.hid (And.intro (hx9.at_ 0 rfl) (hx9.at_ 1 rfl))
    clear hs hb hx9
    refine hK.out _ _ SX.out (fun hHeld => ?_)
    clear hK K
    refine tk 5 hHeld ?_
    refine tk 6 hHeld ?_
    refine rd1 7 (fun K hK => ?_)
    go_simp
    refine hK.out _ _ SX2.out (fun hHeld => ?_)
    clear hK K
    refine tk 8 hHeld ?_
    refine rd0 ?_
    clear hHeld
    go_wp2
    refine bodyPost_ret (v := .tuple #[.slice a L.length c, .int .i64 xn, .agg #[.int .i64 (now + x2), .int .i64 (now + 40 + x5)], .int .i64 (now)]) (by simp [results, Try.results12, go_sem, *]) rfl ?_
    exact ⟨a, c, L, xn, _, _, _, rfl, ((HV30.out.set' hrg3 0 _).set' hrg3 1 _).rd, HSM.out, (HB30.out.setCell (p := ⟨w.heap.size, 0, none⟩) (Nat.le_refl _) _).setCell (p := ⟨w.heap.size, 1, none⟩) (Nat.le_refl _) _⟩
  · have hq : (x4 == 0) = false := beq_eq_false_iff_ne.2 h0
    by_cases h1 : x4 = 1
    · have hq1 : (x4 == 1) = true := beq_iff_eq.2 h1
      clear h0 h1
      obtain ⟨w9, hw9⟩ : ∃ x, x = w8.alloc (.cells #[.int .i64 (-1), .int .i64 999900, .int .i64 999901] 2) := ⟨_, rfl⟩
      obtain ⟨gt, hgt⟩ : ∃ g, w8.heap.size = g := ⟨_, rfl⟩
      have hs8l := HS8.out.lt
      have hbA : But gs w8 w9 := by rw [hw9]; exact (But.refl _ _).alloc _
      have HT9 := Lib.hid (show Blk w9 gt 2 #[.int .i64 (-1), .int .i64 999900, .int .i64 999901] from by rw [hw9, ← hgt]; exact Blk.new _ _ _)
      have hB8 := HB8.out.size
      have HB9 := Lib.hid (HB8.out.trans (hbA.below (B := w.heap.size) hB8 (by omega)))
      have HV9 := Lib.hid (HV8.out.but hbA (by omega))
      have HR9 := Lib.hid (blkBut HR8.out hbA (by omega))
      have HX9 := Lib.hid (blkBut HX8.out hbA (by omega))
      have HS9 := Lib.hid (show Src gs b len cap w9 from by rw [hw9]; exact HS8.out.alloc _)
      have hgt9 : gt ≠ gs := by omega
      clear hbA HB8 HV8 HR8 HX8 HS8 hB8
      go_wp2_with fail
      rw [← hw9]
      refine (n_any gs b len cap 3 _ HS9.out (by omega)).mono ?_
      rintro e w10 ⟨x5, rfl, px5, qx5, hs, hb⟩
      obtain ⟨kk, z, rfl, hkk, hz⟩ := tab3' (a := -1) (b := 999900) (c := 999901) px5 qx5
      have hp : (0 : Int) ≤ (kk : Int) := Int.natCast_nonneg _
      have hu : (kk : Int) < 3 := by omega
      have cl : w10.cell? ⟨gt, kk, none⟩ = some (.int .i64 z) := (blkBut HT9.out hb hgt9).at_ kk hz
      have HB10 := Lib.hid (HB9.out.trans (hb.below (B := w.heap.size) HB9.out.size (by omega)))
      have HV10 := Lib.hid (HV9.out.but hb (by omega))
      have HR10 := Lib.hid (blkBut HR9.out hb (by omega))
      have HX10 := Lib.hid (blkBut HX9.out hb (by omega))
      have HS10 := Lib.hid hs
      clear hs hb hw9 HT9 HB9 HV9 HR9 HX9 HS9 hz
      have x0 := HX10.out.at_ 0 rfl
      have x1_ := HX10.out.at_ 1 rfl
      have HSX := Lib.hid (And.intro x0 x1_)
      have hxl := HX10.out.lt
      have hrl := HR10.out.lt
      clear x0 x1_
      go_upto_region 13 with fail
      refine wp_region_held_drew (S := (fun V => V.cell? ⟨gx, 0, none⟩ = some (.int .i64 (now + x2)) ∧ V.cell? ⟨gx, 1, none⟩ = some (.int .i64 (now + x2 + 1 + x3)))) (by kernel_rfl) (HSX.out) (fun hHeld => ?_)
      refine tk 0 hHeld ?_
      refine tk 1 hHeld ?_
      refine tk 3 hHeld ?_ (hy := fun w hSw => by (try dsimp only at hSw); have k0 := hSw.1; have k1 := hSw.2; clear hSw; go_simp; try with_reducible rfl)
      refine tk 4 hHeld ?_
      refine rd1 2 (fun K hK => ?_)
      go_simp
      go_at_call 46
      refine (n_any gs b len cap 3 _ (srcDrew HS10.out) (by omega)).mono ?_
      rintro e w30 ⟨xn, rfl, pn, qn, hs, hb⟩
      have hb := (But.refl gs _).drew.trans hb
      have HB30 := Lib.hid (HB10.out.trans (hb.below (B := w.heap.size) HB10.out.size (by omega)))
      have HV30 := Lib.hid (HV10.out.but hb (by omega))
      have HX30 := Lib.hid (blkBut HX10.out hb hxg)
      have HR30 := Lib.hid (blkBut HR10.out hb (by omega))
      have q0 := HR30.out.at_ 0 rfl
      have q1 := HR30.out.at_ 1 rfl
      have s0 := HR30.out.soft 0
      have s1 := HR30.out.soft 1
      have SX := Lib.hid (And.intro (HX30.out.at_ 0 rfl) (HX30.out.at_ 1 rfl))
      have hx9 := (HX30.out.far (b := w.heap.size) (o := 0) hxr (.int .i64 (now + x2))).far (b := w.heap.size) (o := 1) hxr (.int .i64 (now + x2 + 1 + x3))
      have SX2 := Lib.hid (And.intro (hx9.at_ 0 rfl) (hx9.at_ 1 rfl))
      clear hs hb hx9
      refine hK.out _ _ SX.out (fun hHeld => ?_)
      clear hK K
      refine tk 5 hHeld ?_
      refine tk 6 hHeld ?_
      refine rd1 7 (fun K hK => ?_)
      go_simp
      refine hK.out _ _ SX2.out (fun hHeld => ?_)
      clear hK K
      refine tk 8 hHeld ?_
      refine rd0 ?_
      clear hHeld
      go_wp2
      refine bodyPost_ret (v := .tuple #[.slice a L.length c, .int .i64 xn, .agg #[.int .i64 (now + x2), .int .i64 (now + x2 + 1 + x3)], .int .i64 (z)]) (by simp [results, Try.results12, go_sem, *]) rfl ?_
      exact ⟨a, c, L, xn, _, _, _, rfl, ((HV30.out.set' hrg3 0 _).set' hrg3 1 _).rd, HSM.out, (HB30.out.setCell (p := ⟨w.heap.size, 0, none⟩) (Nat.le_refl _) _).setCell (p := ⟨w.heap.size, 1, none⟩) (Nat.le_refl _) _⟩
    · have hq1 : (x4 == 1) = false := beq_eq_false_iff_ne.2 h1
      by_cases h2 : x4 = 2
      · have hq2 : (x4 == 2) = true := beq_iff_eq.2 h2
        clear h0 h1 h2
        go_wp2_with fail
        refine (span_any gs b len cap _ HS8.out).mono ?_
        intro e w9 h
        obtain ⟨xa, xb, rfl, hs, hb⟩ := drawnX_elim h
        have HB9 := Lib.hid (HB8.out.trans (hb.below (B := w.heap.size) HB8.out.size (by omega)))
        have HV9 := Lib.hid (HV8.out.but hb (by omega))
        have HR9 := Lib.hid (blkBut HR8.out hb (by omega))
        have HX9 := Lib.hid (blkBut HX8.out hb (by omega))
        have HS9 := Lib.hid hs
        clear h hs hb HB8 HV8 HR8 HX8 HS8
        have hxl9 := HX9.out.lt
        have hrl9 := HR9.out.lt
        have hsl9 := HS9.out.lt
        have x0c := HX9.out.at_ 0 rfl
        have x1c := HX9.out.at_ 1 rfl
        have x0s := HX9.out.soft 0
        have x1s := HX9.out.soft 1
        obtain ⟨w10, hw10⟩ : ∃ x, x = (w9.setCell ⟨gx, 0, none⟩ (.int .i64 (xa))).setCell ⟨gx, 1, none⟩ (.int .i64 (xb)) := ⟨_, rfl⟩
        have HX10 := Lib.hid (show Blk w10 gx 25 #[.int .i64 (xa), .int .i64 (xb)] from by rw [hw10]; exact ((HX9.out.set 0 _).set 1 _).as rfl)
        have HR10 := Lib.hid (show Blk w10 w.heap.size 25 #[.int .i64 0, .int .i64 0] from by rw [hw10]; exact ((HR9.out.far (fun e => hxr e.symm) _).far (fun e => hxr e.symm) _))
        have HB10 := Lib.hid (show Below w.heap.size w w10 from by rw [hw10]; exact ((HB9.out.setCell (p := ⟨gx, 0, none⟩) (show w.heap.size ≤ gx by omega) _).setCell (p := ⟨gx, 1, none⟩) (show w.heap.size ≤ gx by omega) _))
        have HS10 := Lib.hid (show Src gs b len cap w10 from by rw [hw10]; exact (srcSet (srcSet HS9.out (p := ⟨gx, 0, none⟩) (show gs < gx by omega) _) (p := ⟨gx, 1, none⟩) (show gs < gx by omega) _))
        have HV10 := Lib.hid (show VN gs w10 g3 g4 L a c from by rw [hw10]; exact ((HV9.out.set hgx4 _ _).set hgx4 _ _))
        rw [hw10] at HX10 HR10 HB10 HS10 HV10
        clear HX9 HR9 HB9 HS9 HV9 hw10
        clear hxl9 hrl9 hsl9
        have x0 := HX10.out.at_ 0 rfl
        have x1_ := HX10.out.at_ 1 rfl
        have HSX := Lib.hid (And.intro x0 x1_)
        have hxl := HX10.out.lt
        have hrl := HR10.out.lt
        clear x0 x1_
        go_upto_region 13 with fail
        refine wp_region_held_drew (S := (fun V => V.cell? ⟨gx, 0, none⟩ = some (.int .i64 (xa)) ∧ V.cell? ⟨gx, 1, none⟩ = some (.int .i64 (xb)))) (by kernel_rfl) (HSX.out) (fun hHeld => ?_)
        refine tk 0 hHeld ?_
        refine tk 1 hHeld ?_
        refine tk 3 hHeld ?_ (hy := fun w hSw => by (try dsimp only at hSw); have k0 := hSw.1; have k1 := hSw.2; clear hSw; go_simp; try with_reducible rfl)
        refine tk 4 hHeld ?_
        refine rd1 2 (fun K hK => ?_)
        go_simp
        go_at_call 46
        refine (n_any gs b len cap 3 _ (srcDrew HS10.out) (by omega)).mono ?_
        rintro e w30 ⟨xn, rfl, pn, qn, hs, hb⟩
        have hb := (But.refl gs _).drew.trans hb
        have HB30 := Lib.hid (HB10.out.trans (hb.below (B := w.heap.size) HB10.out.size (by omega)))
        have HV30 := Lib.hid (HV10.out.but hb (by omega))
        have HX30 := Lib.hid (blkBut HX10.out hb hxg)
        have HR30 := Lib.hid (blkBut HR10.out hb (by omega))
        have q0 := HR30.out.at_ 0 rfl
        have q1 := HR30.out.at_ 1 rfl
        have s0 := HR30.out.soft 0
        have s1 := HR30.out.soft 1
        have SX := Lib.hid (And.intro (HX30.out.at_ 0 rfl) (HX30.out.at_ 1 rfl))
        have hx9 := (HX30.out.far (b := w.heap.size) (o := 0) hxr (.int .i64 (xa))).far (b := w.heap.size) (o := 1) hxr (.int .i64 (xb))
        have SX2 := Lib.hid (And.intro (hx9.at_ 0 rfl) (hx9.at_ 1 rfl))
        clear hs hb hx9
        refine hK.out _ _ SX.out (fun hHeld => ?_)
        clear hK K
        refine tk 5 hHeld ?_
        refine tk 6 hHeld ?_
        refine rd1 7 (fun K hK => ?_)
        go_simp
        refine hK.out _ _ SX2.out (fun hHeld => ?_)
        clear hK K
        refine tk 8 hHeld ?_
        refine rd0 ?_
        clear hHeld
        go_wp2
        refine bodyPost_ret (v := .tuple #[.slice a L.length c, .int .i64 xn, .agg #[.int .i64 (xa), .int .i64 (xb)], .int .i64 (now)]) (by simp [results, Try.results12, go_sem, *]) rfl ?_
        exact ⟨a, c, L, xn, _, _, _, rfl, ((HV30.out.set' hrg3 0 _).set' hrg3 1 _).rd, HSM.out, (HB30.out.setCell (p := ⟨w.heap.size, 0, none⟩) (Nat.le_refl _) _).setCell (p := ⟨w.heap.size, 1, none⟩) (Nat.le_refl _) _⟩
      · have hq2 : (x4 == 2) = false := beq_eq_false_iff_ne.2 h2
        clear h0 h1 h2
        have x0 := HX8.out.at_ 0 rfl
        have x1_ := HX8.out.at_ 1 rfl
        have HSX := Lib.hid (And.intro x0 x1_)
        have hxl := HX8.out.lt
        have hrl := HR8.out.lt
        clear x0 x1_
        go_upto_region 13 with fail
        refine wp_region_held_drew (S := (fun V => V.cell? ⟨gx, 0, none⟩ = some (.int .i64 (now + x2)) ∧ V.cell? ⟨gx, 1, none⟩ = some (.int .i64 (now + x2 + 1 + x3)))) (by kernel_rfl) (HSX.out) (fun hHeld => ?_)
        refine tk 0 hHeld ?_
        refine tk 1 hHeld ?_
        refine tk 3 hHeld ?_ (hy := fun w hSw => by (try dsimp only at hSw); have k0 := hSw.1; have k1 := hSw.2; clear hSw; go_simp; try with_reducible rfl)
        refine tk 4 hHeld ?_
        refine rd1 2 (fun K hK => ?_)
        go_simp
        go_at_call 46
        refine (n_any gs b len cap 3 _ (srcDrew HS8.out) (by omega)).mono ?_
        rintro e w30 ⟨xn, rfl, pn, qn, hs, hb⟩
        have hb := (But.refl gs _).drew.trans hb
        have HB30 := Lib.hid (HB8.out.trans (hb.below (B := w.heap.size) HB8.out.size (by omega)))
        have HV30 := Lib.hid (HV8.out.but hb (by omega))
        have HX30 := Lib.hid (blkBut HX8.out hb hxg)
        have HR30 := Lib.hid (blkBut HR8.out hb (by omega))
        have q0 := HR30.out.at_ 0 rfl
        have q1 := HR30.out.at_ 1 rfl
        have s0 := HR30.out.soft 0
        have s1 := HR30.out.soft 1
        have SX := Lib.hid (And.intro (HX30.out.at_ 0 rfl) (HX30.out.at_ 1 rfl))
        have hx9 := (HX30.out.far (b := w.heap.size) (o := 0) hxr (.int .i64 (now + x2))).far (b := w.heap.size) (o := 1) hxr (.int .i64 (now + x2 + 1 + x3))
        have SX2 := Lib.hid (And.intro (hx9.at_ 0 rfl) (hx9.at_ 1 rfl))
        clear hs hb hx9
        refine hK.out _ _ SX.out (fun hHeld => ?_)
        clear hK K
        refine tk 5 hHeld ?_
        refine tk 6 hHeld ?_
        refine rd1 7 (fun K hK => ?_)
        go_simp
        refine hK.out _ _ SX2.out (fun hHeld => ?_)
        clear hK K
        refine tk 8 hHeld ?_
        refine rd0 ?_
        clear hHeld
        go_wp2
        refine bodyPost_ret (v := .tuple #[.slice a L.length c, .int .i64 xn, .agg #[.int .i64 (now + x2), .int .i64 (now + x2 + 1 + x3)], .int .i64 (now)]) (by simp [results, Try.results12, go_sem, *]) rfl ?_
        exact ⟨a, c, L, xn, _, _, _, rfl, ((HV30.out.set' hrg3 0 _).set' hrg3 1 _).rd, HSM.out, (HB30.out.setCell (p := ⟨w.heap.size, 0, none⟩) (Nat.le_refl _) _).setCell (p := ⟨w.heap.size, 1, none⟩) (Nat.le_refl _) _⟩
end Go.Proofs.Ytfciojkibklkfaa.RepC
end
section
namespace Go.Proofs.Ytfciojkibklkfaa.RepC
open Go.RowKit RowC ValC SpanC KeptC
set_option linter.unusedVariables false
set_option linter.unusedSimpArgs false
theorem bdrewN' {B : Nat} {w W : World} (h : Below B w W) (n : Nat) : Below B w (W.drewN n) := ⟨h.os, h.tape, h.output, h.size, h.block⟩
set_option maxRecDepth 100000 in
set_option maxHeartbeats 1600000 in
theorem lwspans_v {qa qb : Option Addr} {n ca cb : Nat} {f h : Nat → Int × Int} {w : World} (hn : n ≤ 1048576) (h1 : PA w qa n f) (h2 : PA w qb n h) (he : ∀ i, i < n → f i = h i) :
    Calls Try.prog 26 #[.slice qa n ca, .slice qb n cb] w fun e w' => e = .returned (.bool true) ∧ Below w.heap.size w w' := by
  have H1 := Lib.hid h1
  have H2 := Lib.hid h2
  have HE := Lib.hid he
  clear h1 h2 he
  go_enter Try.func26, Try.ntmps26
  go_wp2
  go_loopw [5] (fun i wr => ∃ k : Nat, k ≤ n ∧ i = .int .i64 k ∧ Below w.heap.size w wr) (fun i _ => n - (intOf i).toNat)
  case atStart => exact ⟨0, Nat.zero_le _, rfl, Below.refl _ _⟩
  case round =>
    obtain ⟨k, hk, rfl, hb⟩ := hrel
    have HB := Lib.hid hb
    by_cases hlt : k < n
    · obtain ⟨g, o, rfl, hgl, hc0, hc1⟩ := (H1.out.bel hb) k hlt
      obtain ⟨g', o', rfl, hgl', hd0, hd1⟩ := (H2.out.bel hb) k hlt
      rw [← HE.out k hlt] at hd0 hd1
      have hi0 : (0 : Int) ≤ (k : Int) := Int.natCast_nonneg _
      have hi1 : (k : Int) < (n : Int) := by omega
      clear hb
      go_wp2_with fail
      go_quiet (fail)
      all_goals
        go_wp2
        go_roundw
        case rel => exact ⟨k + 1, by omega, by go_num, by first | exact bdrewN' HB.out _ | exact HB.out.drew | exact HB.out⟩
        case measure => simp [intOf]; omega
    · clear hb
      go_wp2
      go_ret
      exact ⟨rfl, HB.out⟩
theorem lwspansL {L : List D_Span} {a a' : Option Addr} {c c' : Nat} {W : World} (hn : L.length ≤ 1048576) (h : RdSl R_Span W W.heap.size L a c) (h' : RdSl R_Span W W.heap.size L a' c') :
    Calls Try.prog 26 #[.slice a L.length c, .slice a' L.length c'] W (IsB true W) :=
  (lwspans_v hn (pa_of h (Nat.le_refl _)) (pa_of h' (Nat.le_refl _)) (fun _ _ => rfl)).mono fun _ _ h => h
set_option maxRecDepth 100000 in
set_option maxHeartbeats 3200000 in
theorem lwnodes {L : List D_Node} {a a' : Option Addr} {c c' : Nat} {W : World} (hM : ∀ x ∈ L, x.2.length ≤ 1048576) (h : RdSl R_Node W W.heap.size L a c) (h' : RdSl R_Node W W.heap.size L a' c') :
    Calls Try.prog 18 #[.slice a L.length c, .slice a' L.length c'] W (IsB true W) := by
  have hn : L.length ≤ 9223372036854775807 := by have h1 := h.1; have h2 := h.2.1; unfold maxLen at h2; omega
  have H := Lib.hid h
  have H' := Lib.hid h'
  have HM := Lib.hid hM
  clear h h' hM
  go_enter Try.func18, Try.ntmps18
  go_wp2
  go_loopw [5] (fun i wr => ∃ k : Nat, k ≤ L.length ∧ i = .int .i64 k ∧ Below W.heap.size W wr) (fun i _ => L.length - (intOf i).toNat)
  case atStart => exact ⟨0, Nat.zero_le _, rfl, Below.refl _ _⟩
  case round =>
    obtain ⟨k, hk, rfl, hB⟩ := hrel
    have HB := Lib.hid hB
    have hsz := hB.size
    by_cases hlt : k < L.length
    · obtain ⟨⟨st, M⟩, hx⟩ := el_some hlt
      have hml : M.length ≤ 1048576 := HM.out _ (List.mem_of_getElem? hx)
      obtain ⟨g, o, us, rfl, hg, hu, hr⟩ := (H.out.below R_Node_ok hB).at_ hx
      obtain ⟨ba, bc, rfl, hq2⟩ := rd_Node hr
      have e0 : wr.cell? ⟨g, o + k * 2, none⟩ = some (.int .i64 st) := by simpa [size_NodeS, Nat.add_assoc] using hu 0 _ rfl
      have e1 : wr.cell? ⟨g, o + k * 2 + 1, none⟩ = some (.slice ba M.length bc) := by simpa [size_NodeS, Nat.add_assoc] using hu 1 _ rfl
      obtain ⟨g', o', us', rfl, hg', hu', hr'⟩ := (H'.out.below R_Node_ok hB).at_ hx
      obtain ⟨ba', bc', rfl, hq2'⟩ := rd_Node hr'
      have d0 : wr.cell? ⟨g', o' + k * 2, none⟩ = some (.int .i64 st) := by simpa [size_NodeS, Nat.add_assoc] using hu' 0 _ rfl
      have d1 : wr.cell? ⟨g', o' + k * 2 + 1, none⟩ = some (.slice ba' M.length bc') := by simpa [size_NodeS, Nat.add_assoc] using hu' 1 _ rfl
      have hgl : g < wr.heap.size := Nat.lt_of_lt_of_le hg hsz
      have hgl' : g' < wr.heap.size := Nat.lt_of_lt_of_le hg' hsz
      have hi0 : (0 : Int) ≤ (k : Int) := Int.natCast_nonneg _
      have hi1 : (k : Int) < (L.length : Int) := by omega
      have HR := Lib.hid (hq2.more R_Span_ok hsz)
      have HR' := Lib.hid (hq2'.more R_Span_ok hsz)
      have hq : (st != st) = false := bne_self_eq_false st
      clear hB hx hu hr hu' hr' hq2 hq2'
      go_wp2_with fail
      refine wp_region_held_drew (S := (fun V => Below (wr).heap.size (wr) V)) (by kernel_rfl) ((Below.refl _ _).drew) (fun hHeld => ?_)
      refine tk 0 hHeld ?_
      refine tk 1 hHeld ?_
      refine tk 2 hHeld ?_
      refine tk 3 hHeld ?_
      refine tk 4 hHeld ?_ (hy := fun w hSw => by (try dsimp only at hSw); have k0 := (hSw.cell (p := ⟨g, o + k * 2, none⟩) hgl).trans e0; clear hSw; go_simp; try with_reducible rfl)
      refine tk 5 hHeld ?_
      refine tk 6 hHeld ?_
      refine tk 7 hHeld ?_
      refine tk 8 hHeld ?_
      refine tk 9 hHeld ?_ (hy := fun w hSw => by (try dsimp only at hSw); have k0 := (hSw.cell (p := ⟨g', o' + k * 2, none⟩) hgl').trans d0; clear hSw; go_simp; try with_reducible rfl)
      refine tk 10 hHeld ?_
      refine tk 11 hHeld ?_
      refine tk 12 hHeld ?_
      refine tk 13 hHeld ?_
      refine tk 14 hHeld ?_
      refine tk 15 hHeld ?_
      refine tk 16 hHeld ?_ (hy := fun w hSw => by (try dsimp only at hSw); have k0 := (hSw.cell (p := ⟨g, o + k * 2 + 1, none⟩) hgl).trans e1; clear hSw; go_simp; try with_reducible rfl)
      refine tk 17 hHeld ?_
      refine tk 18 hHeld ?_
      refine tk 19 hHeld ?_
      refine tk 20 hHeld ?_
      refine tk 21 hHeld ?_ (hy := fun w hSw => by (try dsimp only at hSw); have k0 := (hSw.cell (p := ⟨g', o' + k * 2 + 1, none⟩) hgl').trans d1; clear hSw; go_simp; try with_reducible rfl)
      refine rd1 22 (fun K hK => ?_)
      go_simp
      go_at_call 26
      refine (lwspansL hml (mv_rd R_Span_ok HR.out hHeld) (mv_rd R_Span_ok HR'.out hHeld)).mono ?_
      rintro e w9 ⟨rfl, hb⟩
      refine hK.out _ _ (hHeld.trans (hb.mono hHeld.size)) (fun hHeld => ?_)
      clear hK K hb
      refine tk 23 hHeld ?_
      refine tk 24 hHeld ?_
      refine rd0 ?_
      have HF := Lib.hid hHeld
      clear hHeld
      have HB2 := Lib.hid (HB.out.trans (HF.out.mono hsz))
      clear HF
      go_wp2
      go_roundw
      case rel => exact ⟨k + 1, by omega, by go_num, HB2.out⟩
      case measure => simp [intOf]; omega
    · have hdl : decide ((k : Int) < (L.length : Int)) = false := decide_eq_false (by omega)
      clear hB
      go_wp2
      go_ret
      exact ⟨rfl, HB.out⟩
end Go.Proofs.Ytfciojkibklkfaa.RepC
end
section
namespace Go.Proofs.Ytfciojkibklkfaa.RepC
open Go.RowKit RowC ValC SpanC KeptC
set_option linter.unusedVariables false
set_option linter.unusedSimpArgs false
theorem ins_right {n : Nat} {f : Nat → Int × Int} {a b : Int} {p : Nat} {h : Nat → Int × Int} (hF : FreeB n f a b) (hn : n < 20) (hp : PlaceP n f a p) (hh : ∀ i, i < n + 1 → h i = insF f p (a, b) i) : SpR (n + 1) h := by
  obtain ⟨hS, hP, hf⟩ := hF
  have hpn := hp.1
  have hfi := (fits_iff hS hP.2.1 hp).2 hf
  refine ⟨by omega, fun i hi => ⟨?_, fun hpos => ?_⟩⟩
  · rw [hh i hi]
    unfold insF
    by_cases h1 : i < p
    · rw [if_pos h1]; exact (hS.2 i (by omega)).1
    · rw [if_neg h1]
      by_cases h2 : i = p
      · rw [if_pos h2]; exact (spB_iff _ _).2 hP
      · rw [if_neg h2]; exact (hS.2 (i - 1) (by omega)).1
  · rw [hh i hi, hh (i - 1) (by omega)]
    unfold insF
    by_cases h1 : i < p
    · rw [if_pos h1, if_pos (by omega)]; exact (hS.2 i (by omega)).2 hpos
    · rw [if_neg h1]
      by_cases h2 : i = p
      · rw [if_pos h2, if_pos (by omega)]; exact hp.2.1 (i - 1) (by omega)
      · rw [if_neg h2]
        by_cases h3 : i - 1 = p
        · rw [if_neg (by omega), if_pos h3, h3]
          rcases hfi with e | e
          · omega
          · exact e
        · rw [if_neg (by omega), if_neg h3]
          have := (hS.2 (i - 1) (by omega)).2 (by omega)
          exact this
theorem ins_taken {n : Nat} {f : Nat → Int × Int} {a b : Int} {p : Nat} {h : Nat → Int × Int} (hF : FreeB n f a b) (hp : PlaceP n f a p) (hh : ∀ i, i < n + 1 → h i = insF f p (a, b) i) : ¬ FreeB (n + 1) h a b := fun hG => by
  have hpn := hp.1
  have h1 := hG.2.2 p (by omega)
  rw [hh p (by omega)] at h1
  simp only [insF, Nat.lt_irrefl, if_false, if_true] at h1
  have := hF.2.1.2.1
  exact h1 ⟨this, this⟩
theorem place_some (n : Nat) (f : Nat → Int × Int) (a : Int) : ∃ p, PlaceP n f a p := by
  induction n with
  | zero => exact ⟨0, Nat.le_refl _, fun j hj => absurd hj (Nat.not_lt_zero _), fun h => absurd h (Nat.lt_irrefl _)⟩
  | succ n ih =>
    obtain ⟨p, h1, h2, h3⟩ := ih
    by_cases hp : p < n
    · exact ⟨p, by omega, h2, fun _ => h3 hp⟩
    · have e : p = n := by omega
      subst e
      by_cases hq : (f p).2 ≤ a
      · exact ⟨p + 1, Nat.le_refl _, fun j hj => by
          rcases Nat.lt_succ_iff_lt_or_eq.1 hj with h | h
          · exact h2 j h
          · subst h; exact hq, fun h => absurd h (Nat.lt_irrefl _)⟩
      · exact ⟨p, by omega, h2, fun _ => hq⟩
theorem putL_ins {M : List D_Span} {a b : Int} {p : Nat} (h : PlaceP M.length (gt M) a p) : putL M (a, b) = (List.range (M.length + 1)).map (insF (gt M) p (a, b)) := by
  rw [ins_list h.1 (h := insF (gt M) p (a, b)) (fun _ _ => rfl)]
  exact putL_eq h
theorem putL_gt {M : List D_Span} {a b : Int} {p : Nat} (h : PlaceP M.length (gt M) a p) : (putL M (a, b)).length = M.length + 1 ∧ ∀ i, i < M.length + 1 → gt (putL M (a, b)) i = insF (gt M) p (a, b) i := by
  rw [putL_ins h]
  refine ⟨by simp, fun i hi => ?_⟩
  exact gt_at (by rw [List.getElem?_map, List.getElem?_range hi]; rfl)
theorem putL_right {M : List D_Span} {a b : Int} (hF : FreeB M.length (gt M) a b) (h4 : M.length < 4) : SpR (putL M (a, b)).length (gt (putL M (a, b))) ∧ (putL M (a, b)).length ≤ 4 ∧ ¬ FreeB (putL M (a, b)).length (gt (putL M (a, b))) a b := by
  obtain ⟨p, hp⟩ := place_some M.length (gt M) a
  obtain ⟨hl, hg⟩ := putL_gt (b := b) hp
  rw [hl]
  exact ⟨ins_right hF (by omega) hp hg, by omega, ins_taken hF hp hg⟩
theorem putL_cut {M : List D_Span} {a b : Int} (hF : FreeB M.length (gt M) a b) (h4 : M.length < 4) : (putL M (a, b)).filter (fun s => !decide (s.1 = a)) = M := by
  obtain ⟨p, hp⟩ := place_some M.length (gt M) a
  have hR := (putL_right hF h4).1
  have e := putL_eq (x := (a, b)) hp
  have hx : (putL M (a, b))[p]? = some (a, b) := by
    rw [e, List.getElem?_append_right (by rw [List.length_take]; omega), List.length_take, Nat.min_eq_left hp.1, Nat.sub_self]
    rfl
  rw [cut_eq hR hx, e]
  have h1 : (M.take p ++ (a, b) :: M.drop p).take p = M.take p := by
    rw [List.take_append_of_le_length (by rw [List.length_take]; have := hp.1; omega), List.take_take, Nat.min_self]
  have h2 : (M.take p ++ (a, b) :: M.drop p).drop (p + 1) = M.drop p := by
    have hl : (M.take p).length = p := by rw [List.length_take]; have := hp.1; omega
    rw [List.drop_append, List.drop_eq_nil_of_le (by omega), hl]
    simp
  rw [h1, h2, List.take_append_drop]
theorem spR_iff {L : List D_Span} : SpR L.length (gt L) ↔ L.length ≤ 20 ∧ (∀ x ∈ L, spP x.1 x.2) ∧ L.Pairwise (fun x y => x.2 ≤ y.1) := by
  constructor
  · intro h
    refine ⟨h.1, fun x hx => ?_, ?_⟩
    · obtain ⟨i, hi, rfl⟩ := List.getElem_of_mem hx
      have := (h.2 i hi).1
      rw [gt_at (List.getElem?_eq_getElem hi)] at this
      exact (spB_iff _ _).1 this
    · rw [List.pairwise_iff_getElem]
      intro i j hi hj hij
      have := sp_mono h j i hij hj
      rwa [gt_at (List.getElem?_eq_getElem hi), gt_at (List.getElem?_eq_getElem hj)] at this
  · rintro ⟨h1, h2, h3⟩
    refine ⟨h1, fun i hi => ⟨?_, fun hp => ?_⟩⟩
    · rw [gt_at (List.getElem?_eq_getElem hi)]
      exact (spB_iff _ _).2 (h2 _ (List.getElem_mem hi))
    · rw [gt_at (List.getElem?_eq_getElem hi), gt_at (List.getElem?_eq_getElem (show i - 1 < L.length by omega))]
      rw [List.pairwise_iff_getElem] at h3
      exact h3 (i - 1) i (by omega) hi (by omega)
theorem putL_mem {M : List D_Span} {x y : D_Span} (h : y ∈ putL M x) : y = x ∨ y ∈ M := by
  unfold putL at h
  rcases List.mem_append.1 h with h | h
  · exact .inr (List.takeWhile_sublist _ |>.subset h)
  · rcases List.mem_cons.1 h with h | h
    · exact .inl h
    · exact .inr (List.dropWhile_sublist _ |>.subset h)
theorem putL_pass {M : List D_Span} {a b : Int} (hF : FreeB M.length (gt M) a b) (h4 : M.length < 4) : FreeB ((putL M (a, b)).filter (fun s => decide (b < s.2))).length (gt ((putL M (a, b)).filter (fun s => decide (b < s.2)))) a b := by
  obtain ⟨h1, h2, h3⟩ := spR_iff.1 (putL_right hF h4).1
  have hsub : ((putL M (a, b)).filter (fun s => decide (b < s.2))).Sublist (putL M (a, b)) := List.filter_sublist
  refine ⟨spR_iff.2 ⟨Nat.le_trans hsub.length_le h1, fun x hx => h2 x (hsub.subset hx), h3.sublist hsub⟩, hF.2.1, fun i hi => ?_⟩
  have hm := List.getElem_mem hi
  rw [gt_at (List.getElem?_eq_getElem hi)]
  obtain ⟨hm1, hm2⟩ := List.mem_filter.1 hm
  have hlt := of_decide_eq_true hm2
  rcases putL_mem hm1 with h | h
  · rw [h] at hlt; exact absurd hlt (by show ¬ b < b; omega)
  · obtain ⟨j, hj, e⟩ := List.getElem_of_mem h
    have := hF.2.2 j hj
    rw [gt_at (List.getElem?_eq_getElem hj), e] at this
    exact this
theorem chg_ok {L : List D_Node} {n : Int} {ok : Bool} {chg : D_Node → Int × D_Node} {R : List D_Node} (h : chgV L n ok chg = (R, 0)) : ∃ (k : Nat) (x : D_Node), n = (k : Int) ∧ k < L.length ∧ L[k]? = some x ∧ NodesR L ∧ ok = true ∧ (chg x).1 = 0 ∧ R = L.set k (chg x).2 := by
  unfold chgV at h
  split at h
  · exact absurd (show (2 : Int) = 0 from congrArg Prod.snd h) (by decide)
  · split at h
    · exact absurd (show (1 : Int) = 0 from congrArg Prod.snd h) (by decide)
    · rename_i h1 h2
      split at h
      · exact absurd (show (6 : Int) = 0 from congrArg Prod.snd h) (by decide)
      · rename_i h3
        split at h
        · exact absurd (show (6 : Int) = 0 from congrArg Prod.snd h) (by decide)
        · rename_i x hx
          split at h
          · rename_i h4
            have hB : nodesB L = true ∧ ok = true := by
              cases hq : nodesB L <;> cases hq2 : ok <;> simp_all
            have hn : isB n 0 ((L.length : Int) - 1) = true := by
              cases hq : isB n 0 ((L.length : Int) - 1) with
              | true => rfl
              | false => exact absurd hq h3
            have hn' := (isB_iff _ _ _).1 hn
            exact ⟨n.toNat, x, by omega, el_lt hx, hx, nodesB_iff.1 hB.1, hB.2, h4, (congrArg Prod.fst h).symm⟩
          · rename_i h4
            exact absurd (congrArg Prod.snd h) h4
theorem nodesR_set {L : List D_Node} (h : NodesR L) {k : Nat} {y : D_Node} (hy : okN y) : NodesR (L.set k y) :=
  ⟨by rw [List.length_set]; exact h.1, fun x hx => by
    rcases List.mem_or_eq_of_mem_set hx with h1 | h1
    · exact h.2 x h1
    · rw [h1]; exact hy⟩
theorem putN_ok {a b now : Int} {d : D_Node} (h : (putN (a, b) now d).1 = 0) (hd : okN d) (hs : spB a b = true) : FreeB d.2.length (gt d.2) a b ∧ d.2.length < 4 ∧ (putN (a, b) now d).2 = (d.1, putL d.2 (a, b)) := by
  unfold putN at h ⊢
  split at h
  · exact absurd (show (8 : Int) = 0 from h) (by decide)
  · rename_i h1
    split at h
    · exact absurd (show (7 : Int) = 0 from h) (by decide)
    · rename_i h2
      split at h
      · exact absurd (show (9 : Int) = 0 from h) (by decide)
      · rename_i h3
        refine ⟨⟨hd.2.2, (spB_iff _ _).1 hs, Classical.not_not.1 h2⟩, by have := hd.2.1; omega, ?_⟩
        rw [if_neg h1, if_neg h2, if_neg h3]
theorem gt_nil_all {a b : Int} : ¬ FreeB ([((0 : Int), (1000000 : Int))] : List D_Span).length (gt [((0 : Int), (1000000 : Int))]) a b := fun h => by
  have h1 := h.2.1
  have h2 := h.2.2 0 (by decide)
  rw [gt_at (x := ((0 : Int), (1000000 : Int))) rfl] at h2
  unfold spP at h1
  exact h2 ⟨by show (0 : Int) < b; omega, by show a < (1000000 : Int); omega⟩
theorem put_facts {L : List D_Node} {n a b now : Int} {R : List D_Node} (h : chgV L n (spB a b && isB now 0 999900) (putN (a, b) now) = (R, 0)) : ∃ (k : Nat) (s : Int) (Q : List D_Span), n = (k : Int) ∧ k < L.length ∧ R.length = L.length ∧ NodesR R ∧ R[k]? = some (s, Q) ∧ chgV R n true (cutN a) = (L, 0) ∧ ¬ FreeB (rowOf 2 (s, Q)).length (gt (rowOf 2 (s, Q))) a b ∧ FreeB (passN b (s, Q)).2.length (gt (passN b (s, Q)).2) a b := by
  obtain ⟨k, ⟨s, M⟩, rfl, hk, hx, hR, hok, h0, rfl⟩ := chg_ok h
  have hs : spB a b = true := by cases hq : spB a b <;> simp_all
  have hd := nodesR_at hR hx
  obtain ⟨hF', h4', e'⟩ := putN_ok h0 hd hs
  have hF : FreeB M.length (gt M) a b := hF'
  have h4 : M.length < 4 := h4'
  have e : (putN (a, b) now (s, M)).2 = (s, putL M (a, b)) := e'
  clear hF' h4' e'
  rw [e]
  obtain ⟨p1, p2, p3⟩ := putL_right hF h4
  have hR2 : NodesR (L.set k (s, putL M (a, b))) := nodesR_set hR ⟨hd.1, p2, p1⟩
  have hx2 : (L.set k (s, putL M (a, b)))[k]? = some (s, putL M (a, b)) := by rw [List.getElem?_set_self hk]
  refine ⟨k, s, putL M (a, b), rfl, hk, List.length_set, hR2, hx2, ?_, ?_, putL_pass hF h4⟩
  · have hc : cutN a (s, putL M (a, b)) = (0, (s, M)) := by
      unfold cutN
      rw [if_neg]
      · show (0, (s, (putL M (a, b)).filter (fun s => !decide (s.1 = a)))) = _
        rw [putL_cut hF h4]
      · show ¬ ((putL M (a, b)).filter (fun s => !decide (s.1 = a))).length = (putL M (a, b)).length
        rw [putL_cut hF h4]
        obtain ⟨p, hp⟩ := place_some M.length (gt M) a
        have := (putL_gt (b := b) hp).1
        omega
    unfold chgV
    have hl6 := hR2.1.2
    rw [if_neg (by omega), nodesB_iff.2 hR2, if_neg (by decide), if_neg (by rw [(isB_iff _ _ _).2 (by rw [List.length_set]; omega)]; decide), show ((k : Int)).toNat = k from Int.toNat_natCast k, hx2]
    show (if (cutN a (s, putL M (a, b))).1 = 0 then _ else _) = _
    rw [hc, if_pos rfl]
    show ((L.set k (s, putL M (a, b))).set k (s, M), (0 : Int)) = (L, 0)
    rw [List.set_set]
    obtain ⟨hk', e'⟩ := List.getElem?_eq_some_iff.1 hx
    rw [← e', List.set_getElem_self]
  · unfold rowOf
    split
    · exact gt_nil_all
    · exact p3
theorem rowsV_at {L : List D_Node} (h : NodesR L) (st : Int) : (rowsV st L).length = L.length ∧ ∀ (k : Nat) (x : D_Node), L[k]? = some x → (rowsV st L)[k]? = some (rowOf st x) := by
  unfold rowsV
  rw [if_pos (nodesB_iff.2 h)]
  exact ⟨List.length_map _, fun k x hx => by rw [List.getElem?_map, hx]; rfl⟩
theorem passV_at {L : List D_Node} (h : NodesR L) (now : Int) : (passV L now).length = L.length ∧ ∀ (k : Nat) (x : D_Node), L[k]? = some x → (passV L now)[k]? = some (passN now x) := by
  unfold passV
  rw [if_pos (nodesB_iff.2 h)]
  exact ⟨List.length_map _, fun k x hx => by rw [List.getElem?_map, hx]; rfl⟩
theorem set_facts {L : List D_Node} {n st : Int} {R : List D_Node} (h : chgV L n (isB st 1 3) (setN st) = (R, 0)) : ∃ (k : Nat) (M : List D_Span), n = (k : Int) ∧ k < L.length ∧ R.length = L.length ∧ NodesR R ∧ R[k]? = some (st, M) ∧ (1 ≤ st ∧ st ≤ 3) ∧ M.length ≤ 4 := by
  obtain ⟨k, ⟨s, M⟩, rfl, hk, hx, hR, hok, h0, rfl⟩ := chg_ok h
  have hd := nodesR_at hR hx
  have e : (setN st (s, M)).2 = (st, M) := by
    unfold setN at h0 ⊢
    split at h0
    · exact absurd (show (10 : Int) = 0 from h0) (by decide)
    · rename_i h1
      rw [if_neg h1]
  rw [e]
  exact ⟨k, M, rfl, hk, List.length_set, nodesR_set hR ⟨hok, hd.2.1, hd.2.2⟩, List.getElem?_set_self hk, (isB_iff _ _ _).1 hok, hd.2.1⟩
end Go.Proofs.Ytfciojkibklkfaa.RepC
end
section
namespace Go.Proofs.Ytfciojkibklkfaa.RepC
open Go.RowKit RowC ValC SpanC KeptC
set_option linter.unusedVariables false
set_option linter.unusedSimpArgs false
theorem rd_take {α : Type} {E : Rp α} {W : World} {B : Nat} {L : List α} {a : Option Addr} {c : Nat} (h : RdSl E W B L a c) (n : Nat) : RdSl E W B (L.take n) a c := by
  refine ⟨by have := h.1; rw [List.length_take]; omega, h.2.1, fun hn => ?_⟩
  obtain ⟨g, o, ha, hg, hel⟩ := h.2.2 (by rw [List.length_take] at hn; omega)
  refine ⟨g, o, ha, hg, fun i x hx => ?_⟩
  rw [List.getElem?_take] at hx
  split at hx
  · exact hel i x hx
  · cases hx
theorem rd_drop {α : Type} {E : Rp α} {W : World} {B : Nat} {L : List α} {g o : Nat} {a : Option Addr} {c n : Nat} (h : RdSl E W B L (some ⟨g, o, none⟩) c) (ha : n < L.length → a = some ⟨g, o + n * E.size, none⟩) : RdSl E W B (L.drop n) a (c - n) := by
  refine ⟨by have := h.1; rw [List.length_drop]; omega, Nat.le_trans (Nat.sub_le _ _) h.2.1, fun hn => ?_⟩
  rw [List.length_drop] at hn
  obtain ⟨g', o', e, hg, hel⟩ := h.2.2 (by omega)
  cases e
  refine ⟨g, o + n * E.size, ha (by omega), hg, fun i x hx => ?_⟩
  rw [List.getElem?_drop] at hx
  obtain ⟨us, hu, hr⟩ := hel _ x hx
  refine ⟨us, ?_, hr⟩
  rw [show o + n * E.size + i * E.size = o + (n + i) * E.size by rw [Nat.add_mul]; omega]
  exact hu
theorem rd_parts {w : World} {g : Nat} {Ls : List (List D_Span)} {cs : List Value} (h : Blk w g 39 cs.toArray) (hl : cs.length = Ls.length) (hs : Ls.length ≤ 4096) (hel : ∀ (i : Nat) (M : List D_Span), Ls[i]? = some M → ∃ (a : Option Addr) (c : Nat), cs[i]? = some (Value.slice a M.length c) ∧ RdSl R_Span w w.heap.size M a c) : RdSl (Sl R_Span) w w.heap.size Ls (some ⟨g, 0, none⟩) Ls.length := by
  refine ⟨Nat.le_refl _, by unfold maxLen; omega, fun _ => ⟨g, 0, rfl, h.lt, fun i M hM => ?_⟩⟩
  obtain ⟨a, c, h1, h2⟩ := hel i M hM
  refine ⟨[.slice a M.length c], fun j d hj => ?_, a, c, rfl, h2⟩
  have hj0 : j = 0 := by have := el_lt hj; simp at this; omega
  subst hj0
  simp at hj
  subst hj
  have := h.at_ i (v := Value.slice a M.length c) (by rw [List.getElem?_toArray]; exact h1)
  simpa [show (Sl R_Span).size = 1 from rfl] using this
theorem Row.books2 {wq w3 : World} {S T : Nat → Prop} {Sf : Nat → Nat → Prop} {L : List D_Node} {g k : Nat} {st : Int} {M M' : List D_Span} {a : Option Addr} {c : Nat} (h : Row R_Node wq S L g Sf) (hS : ∀ q, S q → q < wq.heap.size) (hx : L[k]? = some (st, M)) (hb : Below wq.heap.size wq w3) (hO : OwSl R_Span w3 T M' a c) (hT : ∀ q, T q → wq.heap.size ≤ q ∧ q < w3.heap.size) :
    (∃ S' Sf', Row R_Node (w3.setCell ⟨g, k * 2 + 1, none⟩ (.slice a M'.length c)) S' (L.set k (st, M')) g Sf' ∧ ∀ q, S' q → (S q ∨ wq.heap.size ≤ q) ∧ q < (w3.setCell ⟨g, k * 2 + 1, none⟩ (.slice a M'.length c)).heap.size) ∧ Off S wq (w3.setCell ⟨g, k * 2 + 1, none⟩ (.slice a M'.length c)) := by
  obtain ⟨us, hu, hr⟩ := h.el k _ hx
  obtain ⟨ba, bc, T0, rfl, hT0, hM⟩ := ow_Node hr
  rw [size_NodeS] at hu
  have hgS := hS g h.own
  have hsz := hb.size
  have d0 : w3.cell? ⟨g, k * 2, none⟩ = some (.int .i64 st) := (hb.cell (p := ⟨g, k * 2, none⟩) hgS).trans (by simpa using hu 0 _ rfl)
  have d1 : w3.cell? ⟨g, k * 2 + 1, none⟩ = some (.slice ba M.length bc) := (hb.cell (p := ⟨g, k * 2 + 1, none⟩) hgS).trans (hu 1 _ rfl)
  have hset : ∀ q, q ≠ g → (w3.setCell ⟨g, k * 2 + 1, none⟩ (.slice a M'.length c)).heap[q]? = w3.heap[q]? := fun q hq => Below.heap_setCell w3 ⟨g, k * 2 + 1, none⟩ _ q hq
  have hrow := Row.put R_Node_ok (T := T) (x := (st, M')) (us := [.int .i64 st, .slice a M'.length c]) h hS
    (W' := w3.setCell ⟨g, k * 2 + 1, none⟩ (.slice a M'.length c)) (by rw [size_NodeS]; exact (Upd.below hb hgS).trans (Upd.set (lo := k * 2) (hi := (k + 1) * 2) _ _ ⟨by omega, by omega⟩ _)) (fun q hq => (hT q hq).1) (fun j d hd => by
      rw [size_NodeS]
      match j, hd with
      | 0, hd => simp at hd; subst hd; rw [Nat.add_zero, World.cell?_setCell_other _ _ _ _ (fun e => by injection e with _ e2; omega)]; exact d0
      | 1, hd => simp at hd; subst hd; exact World.cell?_setCell_same _ _ _ d1
      | j + 2, hd => simp at hd) (mkow_Node (fun q hq => hq) (hO.keep R_Span_ok fun q hq => hset q (by have := (hT q hq).1; omega)))
  refine ⟨⟨_, _, hrow, fun q hq => ?_⟩, ((Off.refl _ wq).of_below hb).setCell (p := ⟨g, k * 2 + 1, none⟩) h.own _⟩
  rcases hq with hq | hq
  · have := hS q hq
    exact ⟨.inl hq, by simp; omega⟩
  · have := hT q hq
    exact ⟨.inr this.1, by simp; omega⟩
end Go.Proofs.Ytfciojkibklkfaa.RepC
end
section
namespace Go.Proofs.Ytfciojkibklkfaa.RepC
open Go.RowKit RowC ValC SpanC KeptC
set_option linter.unusedVariables false
set_option linter.unusedSimpArgs false
set_option maxRecDepth 100000 in
set_option maxHeartbeats 3200000 in
theorem change_impl2 {F : Nat} {lb : Array Value} {chg : D_Node → Int × D_Node} (eg : ∀ args w, (callFunc F args).run Try.prog w = .ok (.enter F args) w) {L : List D_Node} {n : Int} {ok : Bool} {a : Option Addr} {cap : Nat} {W : World} (h : RdSl R_Node W W.heap.size L a cap) (hF : ok = true → ChgF F lb chg W) :
    Calls Try.prog 49 #[.slice a L.length cap, .int .i64 n, .bool ok, .func (.func F) #[] lb] W (NewV R_NodesOut (chgV L n ok chg) W) := by
  obtain ⟨w0, hw0⟩ : ∃ w, w = W.alloc (.cells #[.slice none 0 0, .int .i64 0] 29) := ⟨_, rfl⟩
  have hb0 : Below W.heap.size W w0 := by rw [hw0]; exact (Below.refl _ _).alloc (Nat.le_refl _) _
  have X0 := Lib.hid (show Blk w0 W.heap.size 29 #[.slice none 0 0, .int .i64 0] from by rw [hw0]; exact Blk.new _ _ _)
  have H0 := Lib.hid (mv_rd R_Node_ok h hb0)
  have HB0 := Lib.hid hb0
  have HF := Lib.hid hF
  have HEG := Lib.hid eg
  have hnn := nd_len h
  have hz0 := hb0.size
  have hs := nodes_impl H0.out
  obtain ⟨z, hz⟩ : ∃ z, nodesB L = z := ⟨_, rfl⟩
  rw [hz] at hs
  have HZ := Lib.hid hz
  clear h hF eg hz hb0
  by_cases h400 : 400 < L.length
  · rw [chgV_size h400]
    have hd : decide ((400 : Int) < (L.length : Int)) = true := decide_eq_true (by omega)
    go_enter Try.func49, Try.ntmps49
    go_wp2
    refine bodyPost_ret (v := .agg #[.slice none 0 0, .int .i64 2]) (by simp [results, Try.results49, go_sem, *]) rfl (out_ill ?_)
    first | exact (Below.refl _ _).alloc (Nat.le_refl _) _ | exact ((Below.refl _ _).alloc (Nat.le_refl _) _).setCell (by first | omega | simp) _
  have hd : decide ((400 : Int) < (L.length : Int)) = false := decide_eq_false (by omega)
  go_enter Try.func49, Try.ntmps49
  go_wp2_with fail
  rw [← hw0]
  clear hw0
  refine hs.mono ?_
  intro e w1 h
  obtain ⟨rfl, hb⟩ := isB_elim h
  have X1 := Lib.hid (X0.out.call hb)
  have H1 := Lib.hid (mv_rd R_Node_ok H0.out hb)
  have HB1 := Lib.hid (HB0.out.trans (hb.mono hz0))
  have q0 := X1.out.at_ 0 rfl
  have q1 := X1.out.at_ 1 rfl
  have f0 := X1.out.soft 0
  have f1 := X1.out.soft 1
  clear h hb hs
  by_cases hzo : (z && ok) = false
  · have HE := Lib.hid (chgV_form (n := n) (chg := chg) h400 (show (nodesB L && ok) = false from by rw [HZ.out]; exact hzo))
    have key : z = false ∨ (z = true ∧ ok = false) := by cases z <;> cases ok <;> simp_all
    clear hzo
    rcases key with rfl | ⟨rfl, rfl⟩
    · go_wp2
      rw [HE.out]
      refine bodyPost_ret (v := .agg #[.slice none 0 0, .int .i64 1]) (by simp [results, Try.results49, go_sem, *]) rfl (out_ill ?_)
      exact (HB1.out.setCell (p := ⟨W.heap.size, 0, none⟩) (Nat.le_refl _) _).setCell (p := ⟨W.heap.size, 1, none⟩) (Nat.le_refl _) _
    · go_wp2
      rw [HE.out]
      refine bodyPost_ret (v := .agg #[.slice none 0 0, .int .i64 1]) (by simp [results, Try.results49, go_sem, *]) rfl (out_ill ?_)
      exact (HB1.out.setCell (p := ⟨W.heap.size, 0, none⟩) (Nat.le_refl _) _).setCell (p := ⟨W.heap.size, 1, none⟩) (Nat.le_refl _) _
  have hzo2 : z = true ∧ ok = true := by cases z <;> cases ok <;> simp_all
  obtain ⟨rfl, rfl⟩ := hzo2
  have HZO := Lib.hid (show (nodesB L && true) = true from by rw [HZ.out]; rfl)
  have hN := nodesB_iff.1 HZ.out
  have hsm := nodesR_small hN
  have hL1 := hN.1.1
  have hL6 := hN.1.2
  have HN := Lib.hid hN
  clear hzo hN
  have hwr : IntKind.i64.wrap ((L.length : Int) - 1) = (L.length : Int) - 1 := IntWalk.i64_in _ (by omega)
  obtain ⟨y, hy⟩ : ∃ y, isB n 0 ((L.length : Int) - 1) = y := ⟨_, rfl⟩
  have hi := fun W => is_impl n 0 ((L.length : Int) - 1) W
  rw [hy] at hi
  have HY := Lib.hid hy
  clear hy
  cases y with
  | false =>
    have HE := Lib.hid (chgV_none (chg := chg) h400 HZO.out HY.out)
    go_wp2_with (go_at_call 67; refine (hi _).mono ?_; rintro e w' ⟨rfl, rfl⟩)
    rw [HE.out]
    refine bodyPost_ret (v := .agg #[.slice none 0 0, .int .i64 6]) (by simp [results, Try.results49, go_sem, *]) rfl (out_ill ?_)
    exact (HB1.out.setCell (p := ⟨W.heap.size, 0, none⟩) (Nat.le_refl _) _).setCell (p := ⟨W.heap.size, 1, none⟩) (Nat.le_refl _) _
  | true =>
    have hnb := (isB_iff _ _ _).1 HY.out
    obtain ⟨m, rfl⟩ : ∃ m : Nat, n = m := ⟨n.toNat, by omega⟩
    have hm : m < L.length := by omega
    obtain ⟨x, hx⟩ := el_some hm
    have HV := Lib.hid (chgV_at (chg := chg) h400 HZO.out hx)
    have HOK := Lib.hid (nodesR_at HN.out hx)
    have HX := Lib.hid hx
    have hi0 : (0 : Int) ≤ (m : Int) := Int.natCast_nonneg _
    have hi1 : (m : Int) < (L.length : Int) := by omega
    clear hx hnb q0 q1 f0 f1
    go_wp2_with (first | (go_at_call 67; refine (hi _).mono ?_; rintro e w' ⟨rfl, rfl⟩) | fail)
    refine (copy_impl hsm.1 (by omega) hsm.2 H1.out).mono ?_
    intro e w2 h
    obtain ⟨a', c', rfl, ho, hb⟩ := newS_elim h
    obtain ⟨g, Sf, rfl, hrow⟩ := ho.row (by omega)
    have hc1 := ho.1
    have hc2 := ho.2.1
    have HB2 := Lib.hid (HB1.out.trans (hb.mono HB1.out.size))
    have X2 := Lib.hid (X1.out.call hb)
    have hsz12 := hb.size
    have hlt1 := X1.out.lt
    have hcl := HF.out (by simp) w2 _ L g m Sf x hrow (fun q hq => hq.2) (fun q hq => Nat.le_trans HB1.out.size hq.1) HB2.out HX.out HOK.out
    have HCL := Lib.hid hcl
    have eg := HEG.out
    clear h ho hb hrow hcl hi hwr
    go_wp2_with fail
    refine HCL.out.mono ?_
    intro e w3 h
    obtain ⟨rfl, hof, hrow⟩ := chgR_elim h
    have hz2 := HB2.out.size
    have hz3 := hof.size
    have hxl := X2.out.lt
    have X3 := Lib.hid (show Blk w3 W.heap.size 29 #[.slice none 0 0, .int .i64 0] from (hof.block W.heap.size hxl (fun h => by have h9 : w1.heap.size ≤ W.heap.size := h.1; omega)).trans X2.out)
    have HB3 := Lib.hid (HB2.out.trans (hof.below hz2 fun q hq => Nat.le_trans HB1.out.size hq.1))
    have HROW := Lib.hid hrow
    have HVV := Lib.hid HV.out
    obtain ⟨c, hc⟩ : ∃ c, (chg x).1 = c := ⟨_, rfl⟩
    have HC := Lib.hid hc
    rw [hc]
    have q0 := X3.out.at_ 0 rfl
    have q1 := X3.out.at_ 1 rfl
    have f0 := X3.out.soft 0
    have f1 := X3.out.soft 1
    clear h hof hrow hc eg
    by_cases hc0 : c = 0
    · have HC0 := Lib.hid hc0
      subst hc0
      go_wp2
      rw [HV.out, if_pos HC.out]
      obtain ⟨S', Sf', hR, hS⟩ := HROW.out HC.out
      refine bodyPost_ret (v := .agg #[.slice (some ⟨g, 0, none⟩) L.length c', .int .i64 0]) (by simp [results, Try.results49, go_sem, *]) rfl ⟨[.slice (some ⟨g, 0, none⟩) (L.set m (chg x).2).length c', .int .i64 0], by rw [List.length_set], ?_, (HB3.out.setCell (p := ⟨W.heap.size, 0, none⟩) (Nat.le_refl _) _).setCell (p := ⟨W.heap.size, 1, none⟩) (Nat.le_refl _) _⟩
      refine mkow_NodesOut (T0 := S') (fun q hq => ?_) ((hR.slice (by rw [List.length_set]; exact hc1) hc2).keep R_Node_ok fun q hq => ?_)
      · obtain ⟨h1, h2⟩ := hS q hq
        refine ⟨?_, by simp; exact h2⟩
        rcases h1 with h1 | h1
        · exact Nat.le_trans HB1.out.size h1.1
        · omega
      · have hq2 : q ≠ W.heap.size := by
          obtain ⟨h1, h2⟩ := hS q hq
          rcases h1 with h1 | h1
          · have h9 : w1.heap.size ≤ q := h1.1; omega
          · omega
        rw [Below.heap_setCell _ ⟨W.heap.size, 1, none⟩ _ q hq2, Below.heap_setCell _ ⟨W.heap.size, 0, none⟩ _ q hq2]
    · have hb : (c != 0) = true := by simp [hc0]
      have HC0 := Lib.hid hc0
      clear hc0
      go_wp2
      rw [HV.out, if_neg (by rw [HC.out]; exact HC0.out), HC.out]
      refine bodyPost_ret (v := .agg #[.slice none 0 0, .int .i64 c]) (by simp [results, Try.results49, go_sem, *]) rfl (out_ill ?_)
      exact (HB3.out.setCell (p := ⟨W.heap.size, 0, none⟩) (Nat.le_refl _) _).setCell (p := ⟨W.heap.size, 1, none⟩) (Nat.le_refl _) _
end Go.Proofs.Ytfciojkibklkfaa.RepC
end
