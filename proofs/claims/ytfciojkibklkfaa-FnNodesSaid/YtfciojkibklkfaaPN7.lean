/- Of this claim's texts the part 7: NdFn. -/
import Derived.Deep.DeepCutAuto
import Derived.Test.YtfciojkibklkfaaPN6
section
namespace Go.Proofs.Ytfciojkibklkfaa.RepC
open Go.RowKit KeptC RowC ValC DrawC SpanC
set_option linter.unusedVariables false
set_option linter.unusedSimpArgs false
set_option maxRecDepth 100000
def OwY (w : World) (lo hi : Nat) (L : List D_Node) (a : Option Addr) (c : Nat) : Prop := OwSl R_Node w (Rg lo hi) L a c ∧ hi ≤ w.heap.size
theorem OwY.mv {w w' : World} {lo hi : Nat} {L : List D_Node} {a : Option Addr} {c : Nat} (h : OwY w lo hi L a c) (hb : Below w.heap.size w w') : OwY w' lo hi L a c :=
  ⟨h.1.keep R_Node_ok fun k hk => hb.block k (Nat.lt_of_lt_of_le hk.2 h.2), Nat.le_trans h.2 hb.size⟩
theorem OwY.far {w : World} {lo hi : Nat} {L : List D_Node} {a : Option Addr} {c b : Nat} (h : OwY w lo hi L a c) (hb : b < lo ∨ hi ≤ b) (o : Nat) (u : Value) : OwY (w.setCell ⟨b, o, none⟩ u) lo hi L a c :=
  ⟨h.1.keep R_Node_ok fun k hk => Below.heap_setCell w ⟨b, o, none⟩ u k (show k ≠ b by have h1 := hk.1; have h2 := hk.2; omega), by simpa using h.2⟩
theorem OwY.rd {w : World} {lo hi : Nat} {L : List D_Node} {a : Option Addr} {c : Nat} (h : OwY w lo hi L a c) : RdSl R_Node w w.heap.size L a c :=
  h.1.rd R_Node_ok fun k hk => Nat.lt_of_lt_of_le hk.2 h.2
theorem ARow.own {w : World} {lo : Nat} {v : Value} {L : List D_Node} (h : ARow R_Node w lo 42 v L) : ∃ a c, v = .slice a L.length c ∧ OwSl R_Node w (Rg lo w.heap.size) L a c := by
  obtain ⟨S, h⟩ := h
  exact h.done R_Node_ok
set_option maxHeartbeats 12800000 in
theorem law_nodes (ba : Option Addr) (la ca : Nat) (bm : Option Addr) (lm cm : Nat) (W : World) (hC : CodeIn W ba la) (hM : CodeIn W bm lm) :
    Calls Try.prog 3 #[.slice ba la ca, .slice bm lm cm] W (IsB true W) := by
  have HC := Lib.hid hC
  have HM := Lib.hid hM
  clear hC hM
  go_enter Try.func3, Try.ntmps3
  by_cases hla : la ≤ 1048576
  · by_cases hlm : lm ≤ 1048576
    · have d1 : decide ((1048576 : Int) < (la : Int)) = false := decide_eq_false (by omega)
      have d2 : decide ((1048576 : Int) < (lm : Int)) = false := decide_eq_false (by omega)
      go_wp2_with fail
      have HB := Lib.hid (Below.refl W.heap.size W)
      refine (draw_bookput ba la ca _ hla HC.out).mono ?_
      intro e w1 h
      obtain ⟨aL, cL, L, n, x0, x1, now, rfl, hrd, hsm, hb⟩ := drawnBP_elim h
      have HC := Lib.hid (HC.out.below hb)
      have HM := Lib.hid (HM.out.below hb)
      have HB := Lib.hid (HB.out.trans (hb.mono HB.out.size))
      clear hb
      have HL := Lib.hid hrd
      have HLS := Lib.hid (show ∀ x ∈ L, x.2.length ≤ 1048576 from fun x hx => by have := hsm.2 x hx; omega)
      have hL7 : L.length ≤ 7 := hsm.1
      clear h hrd hsm
      obtain ⟨w2, hV⟩ : ∃ z9, z9 = w1.alloc (.cells #[.int .i64 x0, .int .i64 x1] 25) := ⟨_, rfl⟩
      have hb : Below w1.heap.size w1 w2 := by rw [hV]; exact (Below.refl _ _).alloc (Nat.le_refl _) _
      obtain ⟨b7, hn⟩ : ∃ b, b = w1.heap.size := ⟨_, rfl⟩
      have hq : Blk w2 b7 25 #[.int .i64 x0, .int .i64 x1] := by rw [hV, hn]; exact Blk.new _ _ _
      have HC := Lib.hid (HC.out.below hb)
      have HM := Lib.hid (HM.out.below hb)
      have HL := Lib.hid (mv_rd R_Node_ok HL.out hb)
      have HB := Lib.hid (HB.out.trans (hb.mono HB.out.size))
      clear hb
      have Bb7 := Lib.hid hq
      clear hq
      go_upto_region 4 with fail
      rw [← hV]
      try rw [← hn]
      clear hV hn
      obtain ⟨⟨Y, cy⟩, hd⟩ : ∃ d, chgV L n (spB x0 x1 && isB now 0 999900) (putN (x0, x1) now) = d := ⟨_, rfl⟩
      have HD := Lib.hid hd
      clear hd
      go_cut [9, 10] from 9 to 46 (fun s9 s10 wx => ∃ (b9 b10 : Nat) (a9 : Option Addr) (c9 : Nat) (a10 : Option Addr) (c10 : Nat), s9 = .pointer (some ⟨b9, 0, none⟩) ∧ s10 = .pointer (some ⟨b10, 0, none⟩) ∧ Hid (Blk wx b9 29 #[.slice a9 Y.length c9, .int .i64 cy]) ∧ Hid (Blk wx b10 29 #[.slice a10 Y.length c10, .int .i64 cy]) ∧ Hid (RdSl R_Node wx wx.heap.size Y a9 c9) ∧ Hid (RdSl R_Node wx wx.heap.size Y a10 c10) ∧ Hid (Below w2.heap.size w2 wx))
      case first =>
        refine wp_region_held_drew (S := (fun V => Below w2.heap.size w2 V)) (by kernel_rfl) ((Below.refl _ _).drew) (fun hHeld => ?_)
        obtain ⟨u, hu0⟩ : ∃ z, z = w2.drew := ⟨_, rfl⟩
        rw [← hu0] at hHeld ⊢
        clear hu0
        refine tk 0 hHeld ?_
        refine tk 1 hHeld ?_
        refine tk 2 hHeld ?_ (hy := fun w hSw => by (try dsimp only at hSw); have k0 := (hSw.cell (p := ⟨b7, 0, none⟩) Bb7.out.lt).trans (Bb7.out.at_ 0 rfl); have k1 := (hSw.cell (p := ⟨b7, 1, none⟩) Bb7.out.lt).trans (Bb7.out.at_ 1 rfl); clear hSw; go_simp; try with_reducible rfl)
        refine tk 3 hHeld ?_
        refine tk 5 hHeld ?_
        refine tk 6 hHeld ?_
        refine tk 7 hHeld ?_ (hy := fun w hSw => by (try dsimp only at hSw); have k0 := (hSw.cell (p := ⟨b7, 0, none⟩) Bb7.out.lt).trans (Bb7.out.at_ 0 rfl); have k1 := (hSw.cell (p := ⟨b7, 1, none⟩) Bb7.out.lt).trans (Bb7.out.at_ 1 rfl); clear hSw; go_simp; try with_reducible rfl)
        refine tk 8 hHeld ?_
        refine rd3 4 10 11 (fun K hK => ?_) (fun K hK => ?_) (fun K hK => ?_)
        · skip
          go_simp
          go_at_call 13
          have hl := mv_rd R_Node_ok HL.out hHeld
          obtain ⟨ly, hlo⟩ : ∃ z, z = u.heap.size := ⟨_, rfl⟩
          refine (put_impl2 hl).mono ?_
          intro e u9 h
          rw [HD.out] at h
          obtain ⟨us, rfl, hu, hb⟩ := newV_elim h
          obtain ⟨a9, c9, T9, rfl, hT9, ho9⟩ := ow_NodesOut hu
          obtain ⟨hy, hhi⟩ : ∃ z, z = u9.heap.size := ⟨_, rfl⟩
          have hN : OwY u9 ly hy Y a9 c9 := by rw [hlo, hhi]; exact ⟨ho9.more fun k hk => hT9 k hk, Nat.le_refl _⟩
          try (have D9Y : b9 < ly ∨ hy ≤ b9 := .inl (by have := B9.out.lt; omega))
          try (have D10Y : b10 < ly ∨ hy ≤ b10 := .inl (by have := B10.out.lt; omega))
          try (have HY := Lib.hid (HY.out.mv hb))
          try (have HZ := Lib.hid (HZ.out.mv hb))
          try (have B9 := Lib.hid (B9.out.call hb))
          try (have B10 := Lib.hid (B10.out.call hb))
          have HY := Lib.hid hN
          clear hl h hN hlo hhi ho9 hu hT9
          obtain ⟨u, hu9⟩ : ∃ z, z = u9 := ⟨_, rfl⟩
          subst hu9
          refine hK.out _ _ (hHeld.trans (hb.mono hHeld.size)) (fun hHeld => ?_)
          clear hb
          clear hK K
          refine rd3 9 10 11 (fun K hK => ?_) (fun K hK => ?_) (fun K hK => ?_)
          · skip
            go_simp
            go_at_call 14
            have hl := mv_rd R_Node_ok HL.out hHeld
            obtain ⟨lz, hlo⟩ : ∃ z, z = u.heap.size := ⟨_, rfl⟩
            refine (put_specA hl).mono ?_
            intro e u9 h
            rw [HD.out] at h
            obtain ⟨v10, rfl, hA10, hb⟩ := chgA_elim h
            obtain ⟨a10, c10, rfl, ho9⟩ := hA10.own
            obtain ⟨hz, hhi⟩ : ∃ z, z = u9.heap.size := ⟨_, rfl⟩
            have hN : OwY u9 lz hz Y a10 c10 := by rw [hlo, hhi]; exact ⟨ho9, Nat.le_refl _⟩
            try (have D9Z : b9 < lz ∨ hz ≤ b9 := .inl (by have := B9.out.lt; omega))
            try (have D10Z : b10 < lz ∨ hz ≤ b10 := .inl (by have := B10.out.lt; omega))
            try (have HY := Lib.hid (HY.out.mv hb))
            try (have HZ := Lib.hid (HZ.out.mv hb))
            try (have B9 := Lib.hid (B9.out.call hb))
            try (have B10 := Lib.hid (B10.out.call hb))
            have HZ := Lib.hid hN
            clear hl h hN hlo hhi ho9 hA10
            obtain ⟨u, hu9⟩ : ∃ z, z = u9 := ⟨_, rfl⟩
            subst hu9
            refine hK.out _ _ (hHeld.trans (hb.mono hHeld.size)) (fun hHeld => ?_)
            clear hb
            clear hK K
            refine rd2 10 11 (fun K hK => ?_) (fun K hK => ?_)
            · skip
              go_simp
              have hb : Below u.heap.size u (u.alloc (.cells #[.slice none 0 0, .int .i64 0] 29)) := (Below.refl _ _).alloc (Nat.le_refl _) _
              obtain ⟨b9, hbn⟩ : ∃ b, b = u.heap.size := ⟨_, rfl⟩
              have hq : Blk (u.alloc (.cells #[.slice none 0 0, .int .i64 0] 29)) b9 29 #[.slice none 0 0, .int .i64 0] := by rw [hbn]; exact Blk.new _ _ _
              try (have D9Y : b9 < ly ∨ hy ≤ b9 := .inr (by have := HY.out.2; omega))
              try (have D9Z : b9 < lz ∨ hz ≤ b9 := .inr (by have := HZ.out.2; omega))
              try (have D910 : b9 ≠ b10 := by have := B10.out.lt; omega)
              have N9 : w2.heap.size ≤ b9 := by have := hHeld.size; omega
              try (have HY := Lib.hid (HY.out.mv hb))
              try (have HZ := Lib.hid (HZ.out.mv hb))
              try (have B9 := Lib.hid (B9.out.call hb))
              try (have B10 := Lib.hid (B10.out.call hb))
              have B9 := Lib.hid hq
              clear hq
              obtain ⟨u8, hu8⟩ : ∃ z, z = (u.alloc (.cells #[.slice none 0 0, .int .i64 0] 29)) := ⟨_, rfl⟩
              rw [← hu8, ← hbn]
              rw [← hu8] at hb B9
              try rw [← hu8] at HY
              try rw [← hu8] at HZ
              try rw [← hu8] at B9
              try rw [← hu8] at B10
              clear hu8 hbn
              rename World => u
              refine hK.out _ _ (hHeld.trans (hb.mono hHeld.size)) (fun hHeld => ?_)
              clear hb
              clear hK K
              refine rd1 11 (fun K hK => ?_)
              go_simp
              have hb : Below u.heap.size u (u.alloc (.cells #[.slice none 0 0, .int .i64 0] 29)) := (Below.refl _ _).alloc (Nat.le_refl _) _
              obtain ⟨b10, hbn⟩ : ∃ b, b = u.heap.size := ⟨_, rfl⟩
              have hq : Blk (u.alloc (.cells #[.slice none 0 0, .int .i64 0] 29)) b10 29 #[.slice none 0 0, .int .i64 0] := by rw [hbn]; exact Blk.new _ _ _
              try (have D10Y : b10 < ly ∨ hy ≤ b10 := .inr (by have := HY.out.2; omega))
              try (have D10Z : b10 < lz ∨ hz ≤ b10 := .inr (by have := HZ.out.2; omega))
              try (have D910 : b9 ≠ b10 := by have := B9.out.lt; omega)
              have N10 : w2.heap.size ≤ b10 := by have := hHeld.size; omega
              try (have HY := Lib.hid (HY.out.mv hb))
              try (have HZ := Lib.hid (HZ.out.mv hb))
              try (have B9 := Lib.hid (B9.out.call hb))
              try (have B10 := Lib.hid (B10.out.call hb))
              have B10 := Lib.hid hq
              clear hq
              obtain ⟨u8, hu8⟩ : ∃ z, z = (u.alloc (.cells #[.slice none 0 0, .int .i64 0] 29)) := ⟨_, rfl⟩
              rw [← hu8, ← hbn]
              rw [← hu8] at hb B10
              try rw [← hu8] at HY
              try rw [← hu8] at HZ
              try rw [← hu8] at B9
              try rw [← hu8] at B10
              clear hu8 hbn
              rename World => u
              refine hK.out _ _ (hHeld.trans (hb.mono hHeld.size)) (fun hHeld => ?_)
              clear hb
              clear hK K
              refine rd1 12 (fun K hK => ?_)
              have k0 := B9.out.at_ 0 rfl
              have k1 := B9.out.at_ 1 rfl
              have k2 := B9.out.soft 0
              have k3 := B9.out.soft 1
              go_simp
              have hq : Blk ((u.setCell ⟨b9, 0, none⟩ (.slice a9 Y.length c9)).setCell ⟨b9, 1, none⟩ (.int .i64 cy)) b9 29 #[.slice a9 Y.length c9, .int .i64 cy] := ((B9.out.set 0 _).set 1 _).as rfl
              have hq2 := (B10.out.far (b := b9) (o := 0) (fun e => D910 e.symm) (.slice a9 Y.length c9)).far (b := b9) (o := 1) (fun e => D910 e.symm) (.int .i64 cy)
              have hqY : OwY ((u.setCell ⟨b9, 0, none⟩ (.slice a9 Y.length c9)).setCell ⟨b9, 1, none⟩ (.int .i64 cy)) ly hy Y a9 c9 := (HY.out.far D9Y 0 _).far D9Y 1 _
              have hqZ : OwY ((u.setCell ⟨b9, 0, none⟩ (.slice a9 Y.length c9)).setCell ⟨b9, 1, none⟩ (.int .i64 cy)) lz hz Y a10 c10 := (HZ.out.far D9Z 0 _).far D9Z 1 _
              have hh : Below w2.heap.size w2 ((u.setCell ⟨b9, 0, none⟩ (.slice a9 Y.length c9)).setCell ⟨b9, 1, none⟩ (.int .i64 cy)) := (hHeld.setCell (p := ⟨b9, 0, none⟩) N9 _).setCell (p := ⟨b9, 1, none⟩) N9 _
              obtain ⟨u8, hu8⟩ : ∃ z, z = ((u.setCell ⟨b9, 0, none⟩ (.slice a9 Y.length c9)).setCell ⟨b9, 1, none⟩ (.int .i64 cy)) := ⟨_, rfl⟩
              rw [← hu8] at hq hq2 hqY hqZ hh ⊢
              have B9 := Lib.hid hq
              have B10 := Lib.hid hq2
              have HY := Lib.hid hqY
              have HZ := Lib.hid hqZ
              clear hq hq2 hqY hqZ hu8 k0 k1 k2 k3
              rename World => u
              refine hK.out _ _ hh (fun hHeld => ?_)
              clear hh
              clear hK K
              refine rd1 13 (fun K hK => ?_)
              have k0 := B10.out.at_ 0 rfl
              have k1 := B10.out.at_ 1 rfl
              have k2 := B10.out.soft 0
              have k3 := B10.out.soft 1
              go_simp
              have hq : Blk ((u.setCell ⟨b10, 0, none⟩ (.slice a10 Y.length c10)).setCell ⟨b10, 1, none⟩ (.int .i64 cy)) b10 29 #[.slice a10 Y.length c10, .int .i64 cy] := ((B10.out.set 0 _).set 1 _).as rfl
              have hq2 := (B9.out.far (b := b10) (o := 0) D910 (.slice a10 Y.length c10)).far (b := b10) (o := 1) D910 (.int .i64 cy)
              have hqY : OwY ((u.setCell ⟨b10, 0, none⟩ (.slice a10 Y.length c10)).setCell ⟨b10, 1, none⟩ (.int .i64 cy)) ly hy Y a9 c9 := (HY.out.far D10Y 0 _).far D10Y 1 _
              have hqZ : OwY ((u.setCell ⟨b10, 0, none⟩ (.slice a10 Y.length c10)).setCell ⟨b10, 1, none⟩ (.int .i64 cy)) lz hz Y a10 c10 := (HZ.out.far D10Z 0 _).far D10Z 1 _
              have hh : Below w2.heap.size w2 ((u.setCell ⟨b10, 0, none⟩ (.slice a10 Y.length c10)).setCell ⟨b10, 1, none⟩ (.int .i64 cy)) := (hHeld.setCell (p := ⟨b10, 0, none⟩) N10 _).setCell (p := ⟨b10, 1, none⟩) N10 _
              obtain ⟨u8, hu8⟩ : ∃ z, z = ((u.setCell ⟨b10, 0, none⟩ (.slice a10 Y.length c10)).setCell ⟨b10, 1, none⟩ (.int .i64 cy)) := ⟨_, rfl⟩
              rw [← hu8] at hq hq2 hqY hqZ hh ⊢
              have B10 := Lib.hid hq
              have B9 := Lib.hid hq2
              have HY := Lib.hid hqY
              have HZ := Lib.hid hqZ
              clear hq hq2 hqY hqZ hu8 k0 k1 k2 k3
              rename World => u
              refine hK.out _ _ hh (fun hHeld => ?_)
              clear hh
              clear hK K
              refine rd0 ?_
              go_wp2
              go_meet
              exact ⟨b9, b10, a9, c9, a10, c10, rfl, rfl, B9, B10, Lib.hid HY.out.rd, Lib.hid HZ.out.rd, Lib.hid hHeld⟩
            · skip
              go_simp
              have hb : Below u.heap.size u (u.alloc (.cells #[.slice none 0 0, .int .i64 0] 29)) := (Below.refl _ _).alloc (Nat.le_refl _) _
              obtain ⟨b10, hbn⟩ : ∃ b, b = u.heap.size := ⟨_, rfl⟩
              have hq : Blk (u.alloc (.cells #[.slice none 0 0, .int .i64 0] 29)) b10 29 #[.slice none 0 0, .int .i64 0] := by rw [hbn]; exact Blk.new _ _ _
              try (have D10Y : b10 < ly ∨ hy ≤ b10 := .inr (by have := HY.out.2; omega))
              try (have D10Z : b10 < lz ∨ hz ≤ b10 := .inr (by have := HZ.out.2; omega))
              try (have D910 : b9 ≠ b10 := by have := B9.out.lt; omega)
              have N10 : w2.heap.size ≤ b10 := by have := hHeld.size; omega
              try (have HY := Lib.hid (HY.out.mv hb))
              try (have HZ := Lib.hid (HZ.out.mv hb))
              try (have B9 := Lib.hid (B9.out.call hb))
              try (have B10 := Lib.hid (B10.out.call hb))
              have B10 := Lib.hid hq
              clear hq
              obtain ⟨u8, hu8⟩ : ∃ z, z = (u.alloc (.cells #[.slice none 0 0, .int .i64 0] 29)) := ⟨_, rfl⟩
              rw [← hu8, ← hbn]
              rw [← hu8] at hb B10
              try rw [← hu8] at HY
              try rw [← hu8] at HZ
              try rw [← hu8] at B9
              try rw [← hu8] at B10
              clear hu8 hbn
              rename World => u
              refine hK.out _ _ (hHeld.trans (hb.mono hHeld.size)) (fun hHeld => ?_)
              clear hb
              clear hK K
              refine rd1 10 (fun K hK => ?_)
              go_simp
              have hb : Below u.heap.size u (u.alloc (.cells #[.slice none 0 0, .int .i64 0] 29)) := (Below.refl _ _).alloc (Nat.le_refl _) _
              obtain ⟨b9, hbn⟩ : ∃ b, b = u.heap.size := ⟨_, rfl⟩
              have hq : Blk (u.alloc (.cells #[.slice none 0 0, .int .i64 0] 29)) b9 29 #[.slice none 0 0, .int .i64 0] := by rw [hbn]; exact Blk.new _ _ _
              try (have D9Y : b9 < ly ∨ hy ≤ b9 := .inr (by have := HY.out.2; omega))
              try (have D9Z : b9 < lz ∨ hz ≤ b9 := .inr (by have := HZ.out.2; omega))
              try (have D910 : b9 ≠ b10 := by have := B10.out.lt; omega)
              have N9 : w2.heap.size ≤ b9 := by have := hHeld.size; omega
              try (have HY := Lib.hid (HY.out.mv hb))
              try (have HZ := Lib.hid (HZ.out.mv hb))
              try (have B9 := Lib.hid (B9.out.call hb))
              try (have B10 := Lib.hid (B10.out.call hb))
              have B9 := Lib.hid hq
              clear hq
              obtain ⟨u8, hu8⟩ : ∃ z, z = (u.alloc (.cells #[.slice none 0 0, .int .i64 0] 29)) := ⟨_, rfl⟩
              rw [← hu8, ← hbn]
              rw [← hu8] at hb B9
              try rw [← hu8] at HY
              try rw [← hu8] at HZ
              try rw [← hu8] at B9
              try rw [← hu8] at B10
              clear hu8 hbn
              rename World => u
              refine hK.out _ _ (hHeld.trans (hb.mono hHeld.size)) (fun hHeld => ?_)
              clear hb
              clear hK K
              refine rd1 12 (fun K hK => ?_)
              have k0 := B9.out.at_ 0 rfl
              have k1 := B9.out.at_ 1 rfl
              have k2 := B9.out.soft 0
              have k3 := B9.out.soft 1
              go_simp
              have hq : Blk ((u.setCell ⟨b9, 0, none⟩ (.slice a9 Y.length c9)).setCell ⟨b9, 1, none⟩ (.int .i64 cy)) b9 29 #[.slice a9 Y.length c9, .int .i64 cy] := ((B9.out.set 0 _).set 1 _).as rfl
              have hq2 := (B10.out.far (b := b9) (o := 0) (fun e => D910 e.symm) (.slice a9 Y.length c9)).far (b := b9) (o := 1) (fun e => D910 e.symm) (.int .i64 cy)
              have hqY : OwY ((u.setCell ⟨b9, 0, none⟩ (.slice a9 Y.length c9)).setCell ⟨b9, 1, none⟩ (.int .i64 cy)) ly hy Y a9 c9 := (HY.out.far D9Y 0 _).far D9Y 1 _
              have hqZ : OwY ((u.setCell ⟨b9, 0, none⟩ (.slice a9 Y.length c9)).setCell ⟨b9, 1, none⟩ (.int .i64 cy)) lz hz Y a10 c10 := (HZ.out.far D9Z 0 _).far D9Z 1 _
              have hh : Below w2.heap.size w2 ((u.setCell ⟨b9, 0, none⟩ (.slice a9 Y.length c9)).setCell ⟨b9, 1, none⟩ (.int .i64 cy)) := (hHeld.setCell (p := ⟨b9, 0, none⟩) N9 _).setCell (p := ⟨b9, 1, none⟩) N9 _
              obtain ⟨u8, hu8⟩ : ∃ z, z = ((u.setCell ⟨b9, 0, none⟩ (.slice a9 Y.length c9)).setCell ⟨b9, 1, none⟩ (.int .i64 cy)) := ⟨_, rfl⟩
              rw [← hu8] at hq hq2 hqY hqZ hh ⊢
              have B9 := Lib.hid hq
              have B10 := Lib.hid hq2
              have HY := Lib.hid hqY
              have HZ := Lib.hid hqZ
              clear hq hq2 hqY hqZ hu8 k0 k1 k2 k3
              rename World => u
              refine hK.out _ _ hh (fun hHeld => ?_)
              clear hh
              clear hK K
              refine rd1 13 (fun K hK => ?_)
              have k0 := B10.out.at_ 0 rfl
              have k1 := B10.out.at_ 1 rfl
              have k2 := B10.out.soft 0
              have k3 := B10.out.soft 1
              go_simp
              have hq : Blk ((u.setCell ⟨b10, 0, none⟩ (.slice a10 Y.length c10)).setCell ⟨b10, 1, none⟩ (.int .i64 cy)) b10 29 #[.slice a10 Y.length c10, .int .i64 cy] := ((B10.out.set 0 _).set 1 _).as rfl
              have hq2 := (B9.out.far (b := b10) (o := 0) D910 (.slice a10 Y.length c10)).far (b := b10) (o := 1) D910 (.int .i64 cy)
              have hqY : OwY ((u.setCell ⟨b10, 0, none⟩ (.slice a10 Y.length c10)).setCell ⟨b10, 1, none⟩ (.int .i64 cy)) ly hy Y a9 c9 := (HY.out.far D10Y 0 _).far D10Y 1 _
              have hqZ : OwY ((u.setCell ⟨b10, 0, none⟩ (.slice a10 Y.length c10)).setCell ⟨b10, 1, none⟩ (.int .i64 cy)) lz hz Y a10 c10 := (HZ.out.far D10Z 0 _).far D10Z 1 _
              have hh : Below w2.heap.size w2 ((u.setCell ⟨b10, 0, none⟩ (.slice a10 Y.length c10)).setCell ⟨b10, 1, none⟩ (.int .i64 cy)) := (hHeld.setCell (p := ⟨b10, 0, none⟩) N10 _).setCell (p := ⟨b10, 1, none⟩) N10 _
              obtain ⟨u8, hu8⟩ : ∃ z, z = ((u.setCell ⟨b10, 0, none⟩ (.slice a10 Y.length c10)).setCell ⟨b10, 1, none⟩ (.int .i64 cy)) := ⟨_, rfl⟩
              rw [← hu8] at hq hq2 hqY hqZ hh ⊢
              have B10 := Lib.hid hq
              have B9 := Lib.hid hq2
              have HY := Lib.hid hqY
              have HZ := Lib.hid hqZ
              clear hq hq2 hqY hqZ hu8 k0 k1 k2 k3
              rename World => u
              refine hK.out _ _ hh (fun hHeld => ?_)
              clear hh
              clear hK K
              refine rd0 ?_
              go_wp2
              go_meet
              exact ⟨b9, b10, a9, c9, a10, c10, rfl, rfl, B9, B10, Lib.hid HY.out.rd, Lib.hid HZ.out.rd, Lib.hid hHeld⟩
          · skip
            go_simp
            have hb : Below u.heap.size u (u.alloc (.cells #[.slice none 0 0, .int .i64 0] 29)) := (Below.refl _ _).alloc (Nat.le_refl _) _
            obtain ⟨b9, hbn⟩ : ∃ b, b = u.heap.size := ⟨_, rfl⟩
            have hq : Blk (u.alloc (.cells #[.slice none 0 0, .int .i64 0] 29)) b9 29 #[.slice none 0 0, .int .i64 0] := by rw [hbn]; exact Blk.new _ _ _
            try (have D9Y : b9 < ly ∨ hy ≤ b9 := .inr (by have := HY.out.2; omega))
            try (have D9Z : b9 < lz ∨ hz ≤ b9 := .inr (by have := HZ.out.2; omega))
            try (have D910 : b9 ≠ b10 := by have := B10.out.lt; omega)
            have N9 : w2.heap.size ≤ b9 := by have := hHeld.size; omega
            try (have HY := Lib.hid (HY.out.mv hb))
            try (have HZ := Lib.hid (HZ.out.mv hb))
            try (have B9 := Lib.hid (B9.out.call hb))
            try (have B10 := Lib.hid (B10.out.call hb))
            have B9 := Lib.hid hq
            clear hq
            obtain ⟨u8, hu8⟩ : ∃ z, z = (u.alloc (.cells #[.slice none 0 0, .int .i64 0] 29)) := ⟨_, rfl⟩
            rw [← hu8, ← hbn]
            rw [← hu8] at hb B9
            try rw [← hu8] at HY
            try rw [← hu8] at HZ
            try rw [← hu8] at B9
            try rw [← hu8] at B10
            clear hu8 hbn
            rename World => u
            refine hK.out _ _ (hHeld.trans (hb.mono hHeld.size)) (fun hHeld => ?_)
            clear hb
            clear hK K
            refine rd2 9 11 (fun K hK => ?_) (fun K hK => ?_)
            · skip
              go_simp
              go_at_call 14
              have hl := mv_rd R_Node_ok HL.out hHeld
              obtain ⟨lz, hlo⟩ : ∃ z, z = u.heap.size := ⟨_, rfl⟩
              refine (put_specA hl).mono ?_
              intro e u9 h
              rw [HD.out] at h
              obtain ⟨v10, rfl, hA10, hb⟩ := chgA_elim h
              obtain ⟨a10, c10, rfl, ho9⟩ := hA10.own
              obtain ⟨hz, hhi⟩ : ∃ z, z = u9.heap.size := ⟨_, rfl⟩
              have hN : OwY u9 lz hz Y a10 c10 := by rw [hlo, hhi]; exact ⟨ho9, Nat.le_refl _⟩
              try (have D9Z : b9 < lz ∨ hz ≤ b9 := .inl (by have := B9.out.lt; omega))
              try (have D10Z : b10 < lz ∨ hz ≤ b10 := .inl (by have := B10.out.lt; omega))
              try (have HY := Lib.hid (HY.out.mv hb))
              try (have HZ := Lib.hid (HZ.out.mv hb))
              try (have B9 := Lib.hid (B9.out.call hb))
              try (have B10 := Lib.hid (B10.out.call hb))
              have HZ := Lib.hid hN
              clear hl h hN hlo hhi ho9 hA10
              obtain ⟨u, hu9⟩ : ∃ z, z = u9 := ⟨_, rfl⟩
              subst hu9
              refine hK.out _ _ (hHeld.trans (hb.mono hHeld.size)) (fun hHeld => ?_)
              clear hb
              clear hK K
              refine rd1 11 (fun K hK => ?_)
              go_simp
              have hb : Below u.heap.size u (u.alloc (.cells #[.slice none 0 0, .int .i64 0] 29)) := (Below.refl _ _).alloc (Nat.le_refl _) _
              obtain ⟨b10, hbn⟩ : ∃ b, b = u.heap.size := ⟨_, rfl⟩
              have hq : Blk (u.alloc (.cells #[.slice none 0 0, .int .i64 0] 29)) b10 29 #[.slice none 0 0, .int .i64 0] := by rw [hbn]; exact Blk.new _ _ _
              try (have D10Y : b10 < ly ∨ hy ≤ b10 := .inr (by have := HY.out.2; omega))
              try (have D10Z : b10 < lz ∨ hz ≤ b10 := .inr (by have := HZ.out.2; omega))
              try (have D910 : b9 ≠ b10 := by have := B9.out.lt; omega)
              have N10 : w2.heap.size ≤ b10 := by have := hHeld.size; omega
              try (have HY := Lib.hid (HY.out.mv hb))
              try (have HZ := Lib.hid (HZ.out.mv hb))
              try (have B9 := Lib.hid (B9.out.call hb))
              try (have B10 := Lib.hid (B10.out.call hb))
              have B10 := Lib.hid hq
              clear hq
              obtain ⟨u8, hu8⟩ : ∃ z, z = (u.alloc (.cells #[.slice none 0 0, .int .i64 0] 29)) := ⟨_, rfl⟩
              rw [← hu8, ← hbn]
              rw [← hu8] at hb B10
              try rw [← hu8] at HY
              try rw [← hu8] at HZ
              try rw [← hu8] at B9
              try rw [← hu8] at B10
              clear hu8 hbn
              rename World => u
              refine hK.out _ _ (hHeld.trans (hb.mono hHeld.size)) (fun hHeld => ?_)
              clear hb
              clear hK K
              refine rd1 12 (fun K hK => ?_)
              have k0 := B9.out.at_ 0 rfl
              have k1 := B9.out.at_ 1 rfl
              have k2 := B9.out.soft 0
              have k3 := B9.out.soft 1
              go_simp
              have hq : Blk ((u.setCell ⟨b9, 0, none⟩ (.slice a9 Y.length c9)).setCell ⟨b9, 1, none⟩ (.int .i64 cy)) b9 29 #[.slice a9 Y.length c9, .int .i64 cy] := ((B9.out.set 0 _).set 1 _).as rfl
              have hq2 := (B10.out.far (b := b9) (o := 0) (fun e => D910 e.symm) (.slice a9 Y.length c9)).far (b := b9) (o := 1) (fun e => D910 e.symm) (.int .i64 cy)
              have hqY : OwY ((u.setCell ⟨b9, 0, none⟩ (.slice a9 Y.length c9)).setCell ⟨b9, 1, none⟩ (.int .i64 cy)) ly hy Y a9 c9 := (HY.out.far D9Y 0 _).far D9Y 1 _
              have hqZ : OwY ((u.setCell ⟨b9, 0, none⟩ (.slice a9 Y.length c9)).setCell ⟨b9, 1, none⟩ (.int .i64 cy)) lz hz Y a10 c10 := (HZ.out.far D9Z 0 _).far D9Z 1 _
              have hh : Below w2.heap.size w2 ((u.setCell ⟨b9, 0, none⟩ (.slice a9 Y.length c9)).setCell ⟨b9, 1, none⟩ (.int .i64 cy)) := (hHeld.setCell (p := ⟨b9, 0, none⟩) N9 _).setCell (p := ⟨b9, 1, none⟩) N9 _
              obtain ⟨u8, hu8⟩ : ∃ z, z = ((u.setCell ⟨b9, 0, none⟩ (.slice a9 Y.length c9)).setCell ⟨b9, 1, none⟩ (.int .i64 cy)) := ⟨_, rfl⟩
              rw [← hu8] at hq hq2 hqY hqZ hh ⊢
              have B9 := Lib.hid hq
              have B10 := Lib.hid hq2
              have HY := Lib.hid hqY
              have HZ := Lib.hid hqZ
              clear hq hq2 hqY hqZ hu8 k0 k1 k2 k3
              rename World => u
              refine hK.out _ _ hh (fun hHeld => ?_)
              clear hh
              clear hK K
              refine rd1 13 (fun K hK => ?_)
              have k0 := B10.out.at_ 0 rfl
              have k1 := B10.out.at_ 1 rfl
              have k2 := B10.out.soft 0
              have k3 := B10.out.soft 1
              go_simp
              have hq : Blk ((u.setCell ⟨b10, 0, none⟩ (.slice a10 Y.length c10)).setCell ⟨b10, 1, none⟩ (.int .i64 cy)) b10 29 #[.slice a10 Y.length c10, .int .i64 cy] := ((B10.out.set 0 _).set 1 _).as rfl
              have hq2 := (B9.out.far (b := b10) (o := 0) D910 (.slice a10 Y.length c10)).far (b := b10) (o := 1) D910 (.int .i64 cy)
              have hqY : OwY ((u.setCell ⟨b10, 0, none⟩ (.slice a10 Y.length c10)).setCell ⟨b10, 1, none⟩ (.int .i64 cy)) ly hy Y a9 c9 := (HY.out.far D10Y 0 _).far D10Y 1 _
              have hqZ : OwY ((u.setCell ⟨b10, 0, none⟩ (.slice a10 Y.length c10)).setCell ⟨b10, 1, none⟩ (.int .i64 cy)) lz hz Y a10 c10 := (HZ.out.far D10Z 0 _).far D10Z 1 _
              have hh : Below w2.heap.size w2 ((u.setCell ⟨b10, 0, none⟩ (.slice a10 Y.length c10)).setCell ⟨b10, 1, none⟩ (.int .i64 cy)) := (hHeld.setCell (p := ⟨b10, 0, none⟩) N10 _).setCell (p := ⟨b10, 1, none⟩) N10 _
              obtain ⟨u8, hu8⟩ : ∃ z, z = ((u.setCell ⟨b10, 0, none⟩ (.slice a10 Y.length c10)).setCell ⟨b10, 1, none⟩ (.int .i64 cy)) := ⟨_, rfl⟩
              rw [← hu8] at hq hq2 hqY hqZ hh ⊢
              have B10 := Lib.hid hq
              have B9 := Lib.hid hq2
              have HY := Lib.hid hqY
              have HZ := Lib.hid hqZ
              clear hq hq2 hqY hqZ hu8 k0 k1 k2 k3
              rename World => u
              refine hK.out _ _ hh (fun hHeld => ?_)
              clear hh
              clear hK K
              refine rd0 ?_
              go_wp2
              go_meet
              exact ⟨b9, b10, a9, c9, a10, c10, rfl, rfl, B9, B10, Lib.hid HY.out.rd, Lib.hid HZ.out.rd, Lib.hid hHeld⟩
            · skip
              go_simp
              have hb : Below u.heap.size u (u.alloc (.cells #[.slice none 0 0, .int .i64 0] 29)) := (Below.refl _ _).alloc (Nat.le_refl _) _
              obtain ⟨b10, hbn⟩ : ∃ b, b = u.heap.size := ⟨_, rfl⟩
              have hq : Blk (u.alloc (.cells #[.slice none 0 0, .int .i64 0] 29)) b10 29 #[.slice none 0 0, .int .i64 0] := by rw [hbn]; exact Blk.new _ _ _
              try (have D10Y : b10 < ly ∨ hy ≤ b10 := .inr (by have := HY.out.2; omega))
              try (have D10Z : b10 < lz ∨ hz ≤ b10 := .inr (by have := HZ.out.2; omega))
              try (have D910 : b9 ≠ b10 := by have := B9.out.lt; omega)
              have N10 : w2.heap.size ≤ b10 := by have := hHeld.size; omega
              try (have HY := Lib.hid (HY.out.mv hb))
              try (have HZ := Lib.hid (HZ.out.mv hb))
              try (have B9 := Lib.hid (B9.out.call hb))
              try (have B10 := Lib.hid (B10.out.call hb))
              have B10 := Lib.hid hq
              clear hq
              obtain ⟨u8, hu8⟩ : ∃ z, z = (u.alloc (.cells #[.slice none 0 0, .int .i64 0] 29)) := ⟨_, rfl⟩
              rw [← hu8, ← hbn]
              rw [← hu8] at hb B10
              try rw [← hu8] at HY
              try rw [← hu8] at HZ
              try rw [← hu8] at B9
              try rw [← hu8] at B10
              clear hu8 hbn
              rename World => u
              refine hK.out _ _ (hHeld.trans (hb.mono hHeld.size)) (fun hHeld => ?_)
              clear hb
              clear hK K
              refine rd1 9 (fun K hK => ?_)
              go_simp
              go_at_call 14
              have hl := mv_rd R_Node_ok HL.out hHeld
              obtain ⟨lz, hlo⟩ : ∃ z, z = u.heap.size := ⟨_, rfl⟩
              refine (put_specA hl).mono ?_
              intro e u9 h
              rw [HD.out] at h
              obtain ⟨v10, rfl, hA10, hb⟩ := chgA_elim h
              obtain ⟨a10, c10, rfl, ho9⟩ := hA10.own
              obtain ⟨hz, hhi⟩ : ∃ z, z = u9.heap.size := ⟨_, rfl⟩
              have hN : OwY u9 lz hz Y a10 c10 := by rw [hlo, hhi]; exact ⟨ho9, Nat.le_refl _⟩
              try (have D9Z : b9 < lz ∨ hz ≤ b9 := .inl (by have := B9.out.lt; omega))
              try (have D10Z : b10 < lz ∨ hz ≤ b10 := .inl (by have := B10.out.lt; omega))
              try (have HY := Lib.hid (HY.out.mv hb))
              try (have HZ := Lib.hid (HZ.out.mv hb))
              try (have B9 := Lib.hid (B9.out.call hb))
              try (have B10 := Lib.hid (B10.out.call hb))
              have HZ := Lib.hid hN
              clear hl h hN hlo hhi ho9 hA10
              obtain ⟨u, hu9⟩ : ∃ z, z = u9 := ⟨_, rfl⟩
              subst hu9
              refine hK.out _ _ (hHeld.trans (hb.mono hHeld.size)) (fun hHeld => ?_)
              clear hb
              clear hK K
              refine rd1 12 (fun K hK => ?_)
              have k0 := B9.out.at_ 0 rfl
              have k1 := B9.out.at_ 1 rfl
              have k2 := B9.out.soft 0
              have k3 := B9.out.soft 1
              go_simp
              have hq : Blk ((u.setCell ⟨b9, 0, none⟩ (.slice a9 Y.length c9)).setCell ⟨b9, 1, none⟩ (.int .i64 cy)) b9 29 #[.slice a9 Y.length c9, .int .i64 cy] := ((B9.out.set 0 _).set 1 _).as rfl
              have hq2 := (B10.out.far (b := b9) (o := 0) (fun e => D910 e.symm) (.slice a9 Y.length c9)).far (b := b9) (o := 1) (fun e => D910 e.symm) (.int .i64 cy)
              have hqY : OwY ((u.setCell ⟨b9, 0, none⟩ (.slice a9 Y.length c9)).setCell ⟨b9, 1, none⟩ (.int .i64 cy)) ly hy Y a9 c9 := (HY.out.far D9Y 0 _).far D9Y 1 _
              have hqZ : OwY ((u.setCell ⟨b9, 0, none⟩ (.slice a9 Y.length c9)).setCell ⟨b9, 1, none⟩ (.int .i64 cy)) lz hz Y a10 c10 := (HZ.out.far D9Z 0 _).far D9Z 1 _
              have hh : Below w2.heap.size w2 ((u.setCell ⟨b9, 0, none⟩ (.slice a9 Y.length c9)).setCell ⟨b9, 1, none⟩ (.int .i64 cy)) := (hHeld.setCell (p := ⟨b9, 0, none⟩) N9 _).setCell (p := ⟨b9, 1, none⟩) N9 _
              obtain ⟨u8, hu8⟩ : ∃ z, z = ((u.setCell ⟨b9, 0, none⟩ (.slice a9 Y.length c9)).setCell ⟨b9, 1, none⟩ (.int .i64 cy)) := ⟨_, rfl⟩
              rw [← hu8] at hq hq2 hqY hqZ hh ⊢
              have B9 := Lib.hid hq
              have B10 := Lib.hid hq2
              have HY := Lib.hid hqY
              have HZ := Lib.hid hqZ
              clear hq hq2 hqY hqZ hu8 k0 k1 k2 k3
              rename World => u
              refine hK.out _ _ hh (fun hHeld => ?_)
              clear hh
              clear hK K
              refine rd1 13 (fun K hK => ?_)
              have k0 := B10.out.at_ 0 rfl
              have k1 := B10.out.at_ 1 rfl
              have k2 := B10.out.soft 0
              have k3 := B10.out.soft 1
              go_simp
              have hq : Blk ((u.setCell ⟨b10, 0, none⟩ (.slice a10 Y.length c10)).setCell ⟨b10, 1, none⟩ (.int .i64 cy)) b10 29 #[.slice a10 Y.length c10, .int .i64 cy] := ((B10.out.set 0 _).set 1 _).as rfl
              have hq2 := (B9.out.far (b := b10) (o := 0) D910 (.slice a10 Y.length c10)).far (b := b10) (o := 1) D910 (.int .i64 cy)
              have hqY : OwY ((u.setCell ⟨b10, 0, none⟩ (.slice a10 Y.length c10)).setCell ⟨b10, 1, none⟩ (.int .i64 cy)) ly hy Y a9 c9 := (HY.out.far D10Y 0 _).far D10Y 1 _
              have hqZ : OwY ((u.setCell ⟨b10, 0, none⟩ (.slice a10 Y.length c10)).setCell ⟨b10, 1, none⟩ (.int .i64 cy)) lz hz Y a10 c10 := (HZ.out.far D10Z 0 _).far D10Z 1 _
              have hh : Below w2.heap.size w2 ((u.setCell ⟨b10, 0, none⟩ (.slice a10 Y.length c10)).setCell ⟨b10, 1, none⟩ (.int .i64 cy)) := (hHeld.setCell (p := ⟨b10, 0, none⟩) N10 _).setCell (p := ⟨b10, 1, none⟩) N10 _
              obtain ⟨u8, hu8⟩ : ∃ z, z = ((u.setCell ⟨b10, 0, none⟩ (.slice a10 Y.length c10)).setCell ⟨b10, 1, none⟩ (.int .i64 cy)) := ⟨_, rfl⟩
              rw [← hu8] at hq hq2 hqY hqZ hh ⊢
              have B10 := Lib.hid hq
              have B9 := Lib.hid hq2
              have HY := Lib.hid hqY
              have HZ := Lib.hid hqZ
              clear hq hq2 hqY hqZ hu8 k0 k1 k2 k3
              rename World => u
              refine hK.out _ _ hh (fun hHeld => ?_)
              clear hh
              clear hK K
              refine rd0 ?_
              go_wp2
              go_meet
              exact ⟨b9, b10, a9, c9, a10, c10, rfl, rfl, B9, B10, Lib.hid HY.out.rd, Lib.hid HZ.out.rd, Lib.hid hHeld⟩
          · skip
            go_simp
            have hb : Below u.heap.size u (u.alloc (.cells #[.slice none 0 0, .int .i64 0] 29)) := (Below.refl _ _).alloc (Nat.le_refl _) _
            obtain ⟨b10, hbn⟩ : ∃ b, b = u.heap.size := ⟨_, rfl⟩
            have hq : Blk (u.alloc (.cells #[.slice none 0 0, .int .i64 0] 29)) b10 29 #[.slice none 0 0, .int .i64 0] := by rw [hbn]; exact Blk.new _ _ _
            try (have D10Y : b10 < ly ∨ hy ≤ b10 := .inr (by have := HY.out.2; omega))
            try (have D10Z : b10 < lz ∨ hz ≤ b10 := .inr (by have := HZ.out.2; omega))
            try (have D910 : b9 ≠ b10 := by have := B9.out.lt; omega)
            have N10 : w2.heap.size ≤ b10 := by have := hHeld.size; omega
            try (have HY := Lib.hid (HY.out.mv hb))
            try (have HZ := Lib.hid (HZ.out.mv hb))
            try (have B9 := Lib.hid (B9.out.call hb))
            try (have B10 := Lib.hid (B10.out.call hb))
            have B10 := Lib.hid hq
            clear hq
            obtain ⟨u8, hu8⟩ : ∃ z, z = (u.alloc (.cells #[.slice none 0 0, .int .i64 0] 29)) := ⟨_, rfl⟩
            rw [← hu8, ← hbn]
            rw [← hu8] at hb B10
            try rw [← hu8] at HY
            try rw [← hu8] at HZ
            try rw [← hu8] at B9
            try rw [← hu8] at B10
            clear hu8 hbn
            rename World => u
            refine hK.out _ _ (hHeld.trans (hb.mono hHeld.size)) (fun hHeld => ?_)
            clear hb
            clear hK K
            refine rd2 9 10 (fun K hK => ?_) (fun K hK => ?_)
            · skip
              go_simp
              go_at_call 14
              have hl := mv_rd R_Node_ok HL.out hHeld
              obtain ⟨lz, hlo⟩ : ∃ z, z = u.heap.size := ⟨_, rfl⟩
              refine (put_specA hl).mono ?_
              intro e u9 h
              rw [HD.out] at h
              obtain ⟨v10, rfl, hA10, hb⟩ := chgA_elim h
              obtain ⟨a10, c10, rfl, ho9⟩ := hA10.own
              obtain ⟨hz, hhi⟩ : ∃ z, z = u9.heap.size := ⟨_, rfl⟩
              have hN : OwY u9 lz hz Y a10 c10 := by rw [hlo, hhi]; exact ⟨ho9, Nat.le_refl _⟩
              try (have D9Z : b9 < lz ∨ hz ≤ b9 := .inl (by have := B9.out.lt; omega))
              try (have D10Z : b10 < lz ∨ hz ≤ b10 := .inl (by have := B10.out.lt; omega))
              try (have HY := Lib.hid (HY.out.mv hb))
              try (have HZ := Lib.hid (HZ.out.mv hb))
              try (have B9 := Lib.hid (B9.out.call hb))
              try (have B10 := Lib.hid (B10.out.call hb))
              have HZ := Lib.hid hN
              clear hl h hN hlo hhi ho9 hA10
              obtain ⟨u, hu9⟩ : ∃ z, z = u9 := ⟨_, rfl⟩
              subst hu9
              refine hK.out _ _ (hHeld.trans (hb.mono hHeld.size)) (fun hHeld => ?_)
              clear hb
              clear hK K
              refine rd1 10 (fun K hK => ?_)
              go_simp
              have hb : Below u.heap.size u (u.alloc (.cells #[.slice none 0 0, .int .i64 0] 29)) := (Below.refl _ _).alloc (Nat.le_refl _) _
              obtain ⟨b9, hbn⟩ : ∃ b, b = u.heap.size := ⟨_, rfl⟩
              have hq : Blk (u.alloc (.cells #[.slice none 0 0, .int .i64 0] 29)) b9 29 #[.slice none 0 0, .int .i64 0] := by rw [hbn]; exact Blk.new _ _ _
              try (have D9Y : b9 < ly ∨ hy ≤ b9 := .inr (by have := HY.out.2; omega))
              try (have D9Z : b9 < lz ∨ hz ≤ b9 := .inr (by have := HZ.out.2; omega))
              try (have D910 : b9 ≠ b10 := by have := B10.out.lt; omega)
              have N9 : w2.heap.size ≤ b9 := by have := hHeld.size; omega
              try (have HY := Lib.hid (HY.out.mv hb))
              try (have HZ := Lib.hid (HZ.out.mv hb))
              try (have B9 := Lib.hid (B9.out.call hb))
              try (have B10 := Lib.hid (B10.out.call hb))
              have B9 := Lib.hid hq
              clear hq
              obtain ⟨u8, hu8⟩ : ∃ z, z = (u.alloc (.cells #[.slice none 0 0, .int .i64 0] 29)) := ⟨_, rfl⟩
              rw [← hu8, ← hbn]
              rw [← hu8] at hb B9
              try rw [← hu8] at HY
              try rw [← hu8] at HZ
              try rw [← hu8] at B9
              try rw [← hu8] at B10
              clear hu8 hbn
              rename World => u
              refine hK.out _ _ (hHeld.trans (hb.mono hHeld.size)) (fun hHeld => ?_)
              clear hb
              clear hK K
              refine rd1 12 (fun K hK => ?_)
              have k0 := B9.out.at_ 0 rfl
              have k1 := B9.out.at_ 1 rfl
              have k2 := B9.out.soft 0
              have k3 := B9.out.soft 1
              go_simp
              have hq : Blk ((u.setCell ⟨b9, 0, none⟩ (.slice a9 Y.length c9)).setCell ⟨b9, 1, none⟩ (.int .i64 cy)) b9 29 #[.slice a9 Y.length c9, .int .i64 cy] := ((B9.out.set 0 _).set 1 _).as rfl
              have hq2 := (B10.out.far (b := b9) (o := 0) (fun e => D910 e.symm) (.slice a9 Y.length c9)).far (b := b9) (o := 1) (fun e => D910 e.symm) (.int .i64 cy)
              have hqY : OwY ((u.setCell ⟨b9, 0, none⟩ (.slice a9 Y.length c9)).setCell ⟨b9, 1, none⟩ (.int .i64 cy)) ly hy Y a9 c9 := (HY.out.far D9Y 0 _).far D9Y 1 _
              have hqZ : OwY ((u.setCell ⟨b9, 0, none⟩ (.slice a9 Y.length c9)).setCell ⟨b9, 1, none⟩ (.int .i64 cy)) lz hz Y a10 c10 := (HZ.out.far D9Z 0 _).far D9Z 1 _
              have hh : Below w2.heap.size w2 ((u.setCell ⟨b9, 0, none⟩ (.slice a9 Y.length c9)).setCell ⟨b9, 1, none⟩ (.int .i64 cy)) := (hHeld.setCell (p := ⟨b9, 0, none⟩) N9 _).setCell (p := ⟨b9, 1, none⟩) N9 _
              obtain ⟨u8, hu8⟩ : ∃ z, z = ((u.setCell ⟨b9, 0, none⟩ (.slice a9 Y.length c9)).setCell ⟨b9, 1, none⟩ (.int .i64 cy)) := ⟨_, rfl⟩
              rw [← hu8] at hq hq2 hqY hqZ hh ⊢
              have B9 := Lib.hid hq
              have B10 := Lib.hid hq2
              have HY := Lib.hid hqY
              have HZ := Lib.hid hqZ
              clear hq hq2 hqY hqZ hu8 k0 k1 k2 k3
              rename World => u
              refine hK.out _ _ hh (fun hHeld => ?_)
              clear hh
              clear hK K
              refine rd1 13 (fun K hK => ?_)
              have k0 := B10.out.at_ 0 rfl
              have k1 := B10.out.at_ 1 rfl
              have k2 := B10.out.soft 0
              have k3 := B10.out.soft 1
              go_simp
              have hq : Blk ((u.setCell ⟨b10, 0, none⟩ (.slice a10 Y.length c10)).setCell ⟨b10, 1, none⟩ (.int .i64 cy)) b10 29 #[.slice a10 Y.length c10, .int .i64 cy] := ((B10.out.set 0 _).set 1 _).as rfl
              have hq2 := (B9.out.far (b := b10) (o := 0) D910 (.slice a10 Y.length c10)).far (b := b10) (o := 1) D910 (.int .i64 cy)
              have hqY : OwY ((u.setCell ⟨b10, 0, none⟩ (.slice a10 Y.length c10)).setCell ⟨b10, 1, none⟩ (.int .i64 cy)) ly hy Y a9 c9 := (HY.out.far D10Y 0 _).far D10Y 1 _
              have hqZ : OwY ((u.setCell ⟨b10, 0, none⟩ (.slice a10 Y.length c10)).setCell ⟨b10, 1, none⟩ (.int .i64 cy)) lz hz Y a10 c10 := (HZ.out.far D10Z 0 _).far D10Z 1 _
              have hh : Below w2.heap.size w2 ((u.setCell ⟨b10, 0, none⟩ (.slice a10 Y.length c10)).setCell ⟨b10, 1, none⟩ (.int .i64 cy)) := (hHeld.setCell (p := ⟨b10, 0, none⟩) N10 _).setCell (p := ⟨b10, 1, none⟩) N10 _
              obtain ⟨u8, hu8⟩ : ∃ z, z = ((u.setCell ⟨b10, 0, none⟩ (.slice a10 Y.length c10)).setCell ⟨b10, 1, none⟩ (.int .i64 cy)) := ⟨_, rfl⟩
              rw [← hu8] at hq hq2 hqY hqZ hh ⊢
              have B10 := Lib.hid hq
              have B9 := Lib.hid hq2
              have HY := Lib.hid hqY
              have HZ := Lib.hid hqZ
              clear hq hq2 hqY hqZ hu8 k0 k1 k2 k3
              rename World => u
              refine hK.out _ _ hh (fun hHeld => ?_)
              clear hh
              clear hK K
              refine rd0 ?_
              go_wp2
              go_meet
              exact ⟨b9, b10, a9, c9, a10, c10, rfl, rfl, B9, B10, Lib.hid HY.out.rd, Lib.hid HZ.out.rd, Lib.hid hHeld⟩
            · skip
              go_simp
              have hb : Below u.heap.size u (u.alloc (.cells #[.slice none 0 0, .int .i64 0] 29)) := (Below.refl _ _).alloc (Nat.le_refl _) _
              obtain ⟨b9, hbn⟩ : ∃ b, b = u.heap.size := ⟨_, rfl⟩
              have hq : Blk (u.alloc (.cells #[.slice none 0 0, .int .i64 0] 29)) b9 29 #[.slice none 0 0, .int .i64 0] := by rw [hbn]; exact Blk.new _ _ _
              try (have D9Y : b9 < ly ∨ hy ≤ b9 := .inr (by have := HY.out.2; omega))
              try (have D9Z : b9 < lz ∨ hz ≤ b9 := .inr (by have := HZ.out.2; omega))
              try (have D910 : b9 ≠ b10 := by have := B10.out.lt; omega)
              have N9 : w2.heap.size ≤ b9 := by have := hHeld.size; omega
              try (have HY := Lib.hid (HY.out.mv hb))
              try (have HZ := Lib.hid (HZ.out.mv hb))
              try (have B9 := Lib.hid (B9.out.call hb))
              try (have B10 := Lib.hid (B10.out.call hb))
              have B9 := Lib.hid hq
              clear hq
              obtain ⟨u8, hu8⟩ : ∃ z, z = (u.alloc (.cells #[.slice none 0 0, .int .i64 0] 29)) := ⟨_, rfl⟩
              rw [← hu8, ← hbn]
              rw [← hu8] at hb B9
              try rw [← hu8] at HY
              try rw [← hu8] at HZ
              try rw [← hu8] at B9
              try rw [← hu8] at B10
              clear hu8 hbn
              rename World => u
              refine hK.out _ _ (hHeld.trans (hb.mono hHeld.size)) (fun hHeld => ?_)
              clear hb
              clear hK K
              refine rd1 9 (fun K hK => ?_)
              go_simp
              go_at_call 14
              have hl := mv_rd R_Node_ok HL.out hHeld
              obtain ⟨lz, hlo⟩ : ∃ z, z = u.heap.size := ⟨_, rfl⟩
              refine (put_specA hl).mono ?_
              intro e u9 h
              rw [HD.out] at h
              obtain ⟨v10, rfl, hA10, hb⟩ := chgA_elim h
              obtain ⟨a10, c10, rfl, ho9⟩ := hA10.own
              obtain ⟨hz, hhi⟩ : ∃ z, z = u9.heap.size := ⟨_, rfl⟩
              have hN : OwY u9 lz hz Y a10 c10 := by rw [hlo, hhi]; exact ⟨ho9, Nat.le_refl _⟩
              try (have D9Z : b9 < lz ∨ hz ≤ b9 := .inl (by have := B9.out.lt; omega))
              try (have D10Z : b10 < lz ∨ hz ≤ b10 := .inl (by have := B10.out.lt; omega))
              try (have HY := Lib.hid (HY.out.mv hb))
              try (have HZ := Lib.hid (HZ.out.mv hb))
              try (have B9 := Lib.hid (B9.out.call hb))
              try (have B10 := Lib.hid (B10.out.call hb))
              have HZ := Lib.hid hN
              clear hl h hN hlo hhi ho9 hA10
              obtain ⟨u, hu9⟩ : ∃ z, z = u9 := ⟨_, rfl⟩
              subst hu9
              refine hK.out _ _ (hHeld.trans (hb.mono hHeld.size)) (fun hHeld => ?_)
              clear hb
              clear hK K
              refine rd1 12 (fun K hK => ?_)
              have k0 := B9.out.at_ 0 rfl
              have k1 := B9.out.at_ 1 rfl
              have k2 := B9.out.soft 0
              have k3 := B9.out.soft 1
              go_simp
              have hq : Blk ((u.setCell ⟨b9, 0, none⟩ (.slice a9 Y.length c9)).setCell ⟨b9, 1, none⟩ (.int .i64 cy)) b9 29 #[.slice a9 Y.length c9, .int .i64 cy] := ((B9.out.set 0 _).set 1 _).as rfl
              have hq2 := (B10.out.far (b := b9) (o := 0) (fun e => D910 e.symm) (.slice a9 Y.length c9)).far (b := b9) (o := 1) (fun e => D910 e.symm) (.int .i64 cy)
              have hqY : OwY ((u.setCell ⟨b9, 0, none⟩ (.slice a9 Y.length c9)).setCell ⟨b9, 1, none⟩ (.int .i64 cy)) ly hy Y a9 c9 := (HY.out.far D9Y 0 _).far D9Y 1 _
              have hqZ : OwY ((u.setCell ⟨b9, 0, none⟩ (.slice a9 Y.length c9)).setCell ⟨b9, 1, none⟩ (.int .i64 cy)) lz hz Y a10 c10 := (HZ.out.far D9Z 0 _).far D9Z 1 _
              have hh : Below w2.heap.size w2 ((u.setCell ⟨b9, 0, none⟩ (.slice a9 Y.length c9)).setCell ⟨b9, 1, none⟩ (.int .i64 cy)) := (hHeld.setCell (p := ⟨b9, 0, none⟩) N9 _).setCell (p := ⟨b9, 1, none⟩) N9 _
              obtain ⟨u8, hu8⟩ : ∃ z, z = ((u.setCell ⟨b9, 0, none⟩ (.slice a9 Y.length c9)).setCell ⟨b9, 1, none⟩ (.int .i64 cy)) := ⟨_, rfl⟩
              rw [← hu8] at hq hq2 hqY hqZ hh ⊢
              have B9 := Lib.hid hq
              have B10 := Lib.hid hq2
              have HY := Lib.hid hqY
              have HZ := Lib.hid hqZ
              clear hq hq2 hqY hqZ hu8 k0 k1 k2 k3
              rename World => u
              refine hK.out _ _ hh (fun hHeld => ?_)
              clear hh
              clear hK K
              refine rd1 13 (fun K hK => ?_)
              have k0 := B10.out.at_ 0 rfl
              have k1 := B10.out.at_ 1 rfl
              have k2 := B10.out.soft 0
              have k3 := B10.out.soft 1
              go_simp
              have hq : Blk ((u.setCell ⟨b10, 0, none⟩ (.slice a10 Y.length c10)).setCell ⟨b10, 1, none⟩ (.int .i64 cy)) b10 29 #[.slice a10 Y.length c10, .int .i64 cy] := ((B10.out.set 0 _).set 1 _).as rfl
              have hq2 := (B9.out.far (b := b10) (o := 0) D910 (.slice a10 Y.length c10)).far (b := b10) (o := 1) D910 (.int .i64 cy)
              have hqY : OwY ((u.setCell ⟨b10, 0, none⟩ (.slice a10 Y.length c10)).setCell ⟨b10, 1, none⟩ (.int .i64 cy)) ly hy Y a9 c9 := (HY.out.far D10Y 0 _).far D10Y 1 _
              have hqZ : OwY ((u.setCell ⟨b10, 0, none⟩ (.slice a10 Y.length c10)).setCell ⟨b10, 1, none⟩ (.int .i64 cy)) lz hz Y a10 c10 := (HZ.out.far D10Z 0 _).far D10Z 1 _
              have hh : Below w2.heap.size w2 ((u.setCell ⟨b10, 0, none⟩ (.slice a10 Y.length c10)).setCell ⟨b10, 1, none⟩ (.int .i64 cy)) := (hHeld.setCell (p := ⟨b10, 0, none⟩) N10 _).setCell (p := ⟨b10, 1, none⟩) N10 _
              obtain ⟨u8, hu8⟩ : ∃ z, z = ((u.setCell ⟨b10, 0, none⟩ (.slice a10 Y.length c10)).setCell ⟨b10, 1, none⟩ (.int .i64 cy)) := ⟨_, rfl⟩
              rw [← hu8] at hq hq2 hqY hqZ hh ⊢
              have B10 := Lib.hid hq
              have B9 := Lib.hid hq2
              have HY := Lib.hid hqY
              have HZ := Lib.hid hqZ
              clear hq hq2 hqY hqZ hu8 k0 k1 k2 k3
              rename World => u
              refine hK.out _ _ hh (fun hHeld => ?_)
              clear hh
              clear hK K
              refine rd0 ?_
              go_wp2
              go_meet
              exact ⟨b9, b10, a9, c9, a10, c10, rfl, rfl, B9, B10, Lib.hid HY.out.rd, Lib.hid HZ.out.rd, Lib.hid hHeld⟩
        · skip
          go_simp
          have hb : Below u.heap.size u (u.alloc (.cells #[.slice none 0 0, .int .i64 0] 29)) := (Below.refl _ _).alloc (Nat.le_refl _) _
          obtain ⟨b9, hbn⟩ : ∃ b, b = u.heap.size := ⟨_, rfl⟩
          have hq : Blk (u.alloc (.cells #[.slice none 0 0, .int .i64 0] 29)) b9 29 #[.slice none 0 0, .int .i64 0] := by rw [hbn]; exact Blk.new _ _ _
          try (have D9Y : b9 < ly ∨ hy ≤ b9 := .inr (by have := HY.out.2; omega))
          try (have D9Z : b9 < lz ∨ hz ≤ b9 := .inr (by have := HZ.out.2; omega))
          try (have D910 : b9 ≠ b10 := by have := B10.out.lt; omega)
          have N9 : w2.heap.size ≤ b9 := by have := hHeld.size; omega
          try (have HY := Lib.hid (HY.out.mv hb))
          try (have HZ := Lib.hid (HZ.out.mv hb))
          try (have B9 := Lib.hid (B9.out.call hb))
          try (have B10 := Lib.hid (B10.out.call hb))
          have B9 := Lib.hid hq
          clear hq
          obtain ⟨u8, hu8⟩ : ∃ z, z = (u.alloc (.cells #[.slice none 0 0, .int .i64 0] 29)) := ⟨_, rfl⟩
          rw [← hu8, ← hbn]
          rw [← hu8] at hb B9
          try rw [← hu8] at HY
          try rw [← hu8] at HZ
          try rw [← hu8] at B9
          try rw [← hu8] at B10
          clear hu8 hbn
          rename World => u
          refine hK.out _ _ (hHeld.trans (hb.mono hHeld.size)) (fun hHeld => ?_)
          clear hb
          clear hK K
          refine rd2 4 11 (fun K hK => ?_) (fun K hK => ?_)
          · skip
            go_simp
            go_at_call 13
            have hl := mv_rd R_Node_ok HL.out hHeld
            obtain ⟨ly, hlo⟩ : ∃ z, z = u.heap.size := ⟨_, rfl⟩
            refine (put_impl2 hl).mono ?_
            intro e u9 h
            rw [HD.out] at h
            obtain ⟨us, rfl, hu, hb⟩ := newV_elim h
            obtain ⟨a9, c9, T9, rfl, hT9, ho9⟩ := ow_NodesOut hu
            obtain ⟨hy, hhi⟩ : ∃ z, z = u9.heap.size := ⟨_, rfl⟩
            have hN : OwY u9 ly hy Y a9 c9 := by rw [hlo, hhi]; exact ⟨ho9.more fun k hk => hT9 k hk, Nat.le_refl _⟩
            try (have D9Y : b9 < ly ∨ hy ≤ b9 := .inl (by have := B9.out.lt; omega))
            try (have D10Y : b10 < ly ∨ hy ≤ b10 := .inl (by have := B10.out.lt; omega))
            try (have HY := Lib.hid (HY.out.mv hb))
            try (have HZ := Lib.hid (HZ.out.mv hb))
            try (have B9 := Lib.hid (B9.out.call hb))
            try (have B10 := Lib.hid (B10.out.call hb))
            have HY := Lib.hid hN
            clear hl h hN hlo hhi ho9 hu hT9
            obtain ⟨u, hu9⟩ : ∃ z, z = u9 := ⟨_, rfl⟩
            subst hu9
            refine hK.out _ _ (hHeld.trans (hb.mono hHeld.size)) (fun hHeld => ?_)
            clear hb
            clear hK K
            refine rd2 9 11 (fun K hK => ?_) (fun K hK => ?_)
            · skip
              go_simp
              go_at_call 14
              have hl := mv_rd R_Node_ok HL.out hHeld
              obtain ⟨lz, hlo⟩ : ∃ z, z = u.heap.size := ⟨_, rfl⟩
              refine (put_specA hl).mono ?_
              intro e u9 h
              rw [HD.out] at h
              obtain ⟨v10, rfl, hA10, hb⟩ := chgA_elim h
              obtain ⟨a10, c10, rfl, ho9⟩ := hA10.own
              obtain ⟨hz, hhi⟩ : ∃ z, z = u9.heap.size := ⟨_, rfl⟩
              have hN : OwY u9 lz hz Y a10 c10 := by rw [hlo, hhi]; exact ⟨ho9, Nat.le_refl _⟩
              try (have D9Z : b9 < lz ∨ hz ≤ b9 := .inl (by have := B9.out.lt; omega))
              try (have D10Z : b10 < lz ∨ hz ≤ b10 := .inl (by have := B10.out.lt; omega))
              try (have HY := Lib.hid (HY.out.mv hb))
              try (have HZ := Lib.hid (HZ.out.mv hb))
              try (have B9 := Lib.hid (B9.out.call hb))
              try (have B10 := Lib.hid (B10.out.call hb))
              have HZ := Lib.hid hN
              clear hl h hN hlo hhi ho9 hA10
              obtain ⟨u, hu9⟩ : ∃ z, z = u9 := ⟨_, rfl⟩
              subst hu9
              refine hK.out _ _ (hHeld.trans (hb.mono hHeld.size)) (fun hHeld => ?_)
              clear hb
              clear hK K
              refine rd1 11 (fun K hK => ?_)
              go_simp
              have hb : Below u.heap.size u (u.alloc (.cells #[.slice none 0 0, .int .i64 0] 29)) := (Below.refl _ _).alloc (Nat.le_refl _) _
              obtain ⟨b10, hbn⟩ : ∃ b, b = u.heap.size := ⟨_, rfl⟩
              have hq : Blk (u.alloc (.cells #[.slice none 0 0, .int .i64 0] 29)) b10 29 #[.slice none 0 0, .int .i64 0] := by rw [hbn]; exact Blk.new _ _ _
              try (have D10Y : b10 < ly ∨ hy ≤ b10 := .inr (by have := HY.out.2; omega))
              try (have D10Z : b10 < lz ∨ hz ≤ b10 := .inr (by have := HZ.out.2; omega))
              try (have D910 : b9 ≠ b10 := by have := B9.out.lt; omega)
              have N10 : w2.heap.size ≤ b10 := by have := hHeld.size; omega
              try (have HY := Lib.hid (HY.out.mv hb))
              try (have HZ := Lib.hid (HZ.out.mv hb))
              try (have B9 := Lib.hid (B9.out.call hb))
              try (have B10 := Lib.hid (B10.out.call hb))
              have B10 := Lib.hid hq
              clear hq
              obtain ⟨u8, hu8⟩ : ∃ z, z = (u.alloc (.cells #[.slice none 0 0, .int .i64 0] 29)) := ⟨_, rfl⟩
              rw [← hu8, ← hbn]
              rw [← hu8] at hb B10
              try rw [← hu8] at HY
              try rw [← hu8] at HZ
              try rw [← hu8] at B9
              try rw [← hu8] at B10
              clear hu8 hbn
              rename World => u
              refine hK.out _ _ (hHeld.trans (hb.mono hHeld.size)) (fun hHeld => ?_)
              clear hb
              clear hK K
              refine rd1 12 (fun K hK => ?_)
              have k0 := B9.out.at_ 0 rfl
              have k1 := B9.out.at_ 1 rfl
              have k2 := B9.out.soft 0
              have k3 := B9.out.soft 1
              go_simp
              have hq : Blk ((u.setCell ⟨b9, 0, none⟩ (.slice a9 Y.length c9)).setCell ⟨b9, 1, none⟩ (.int .i64 cy)) b9 29 #[.slice a9 Y.length c9, .int .i64 cy] := ((B9.out.set 0 _).set 1 _).as rfl
              have hq2 := (B10.out.far (b := b9) (o := 0) (fun e => D910 e.symm) (.slice a9 Y.length c9)).far (b := b9) (o := 1) (fun e => D910 e.symm) (.int .i64 cy)
              have hqY : OwY ((u.setCell ⟨b9, 0, none⟩ (.slice a9 Y.length c9)).setCell ⟨b9, 1, none⟩ (.int .i64 cy)) ly hy Y a9 c9 := (HY.out.far D9Y 0 _).far D9Y 1 _
              have hqZ : OwY ((u.setCell ⟨b9, 0, none⟩ (.slice a9 Y.length c9)).setCell ⟨b9, 1, none⟩ (.int .i64 cy)) lz hz Y a10 c10 := (HZ.out.far D9Z 0 _).far D9Z 1 _
              have hh : Below w2.heap.size w2 ((u.setCell ⟨b9, 0, none⟩ (.slice a9 Y.length c9)).setCell ⟨b9, 1, none⟩ (.int .i64 cy)) := (hHeld.setCell (p := ⟨b9, 0, none⟩) N9 _).setCell (p := ⟨b9, 1, none⟩) N9 _
              obtain ⟨u8, hu8⟩ : ∃ z, z = ((u.setCell ⟨b9, 0, none⟩ (.slice a9 Y.length c9)).setCell ⟨b9, 1, none⟩ (.int .i64 cy)) := ⟨_, rfl⟩
              rw [← hu8] at hq hq2 hqY hqZ hh ⊢
              have B9 := Lib.hid hq
              have B10 := Lib.hid hq2
              have HY := Lib.hid hqY
              have HZ := Lib.hid hqZ
              clear hq hq2 hqY hqZ hu8 k0 k1 k2 k3
              rename World => u
              refine hK.out _ _ hh (fun hHeld => ?_)
              clear hh
              clear hK K
              refine rd1 13 (fun K hK => ?_)
              have k0 := B10.out.at_ 0 rfl
              have k1 := B10.out.at_ 1 rfl
              have k2 := B10.out.soft 0
              have k3 := B10.out.soft 1
              go_simp
              have hq : Blk ((u.setCell ⟨b10, 0, none⟩ (.slice a10 Y.length c10)).setCell ⟨b10, 1, none⟩ (.int .i64 cy)) b10 29 #[.slice a10 Y.length c10, .int .i64 cy] := ((B10.out.set 0 _).set 1 _).as rfl
              have hq2 := (B9.out.far (b := b10) (o := 0) D910 (.slice a10 Y.length c10)).far (b := b10) (o := 1) D910 (.int .i64 cy)
              have hqY : OwY ((u.setCell ⟨b10, 0, none⟩ (.slice a10 Y.length c10)).setCell ⟨b10, 1, none⟩ (.int .i64 cy)) ly hy Y a9 c9 := (HY.out.far D10Y 0 _).far D10Y 1 _
              have hqZ : OwY ((u.setCell ⟨b10, 0, none⟩ (.slice a10 Y.length c10)).setCell ⟨b10, 1, none⟩ (.int .i64 cy)) lz hz Y a10 c10 := (HZ.out.far D10Z 0 _).far D10Z 1 _
              have hh : Below w2.heap.size w2 ((u.setCell ⟨b10, 0, none⟩ (.slice a10 Y.length c10)).setCell ⟨b10, 1, none⟩ (.int .i64 cy)) := (hHeld.setCell (p := ⟨b10, 0, none⟩) N10 _).setCell (p := ⟨b10, 1, none⟩) N10 _
              obtain ⟨u8, hu8⟩ : ∃ z, z = ((u.setCell ⟨b10, 0, none⟩ (.slice a10 Y.length c10)).setCell ⟨b10, 1, none⟩ (.int .i64 cy)) := ⟨_, rfl⟩
              rw [← hu8] at hq hq2 hqY hqZ hh ⊢
              have B10 := Lib.hid hq
              have B9 := Lib.hid hq2
              have HY := Lib.hid hqY
              have HZ := Lib.hid hqZ
              clear hq hq2 hqY hqZ hu8 k0 k1 k2 k3
              rename World => u
              refine hK.out _ _ hh (fun hHeld => ?_)
              clear hh
              clear hK K
              refine rd0 ?_
              go_wp2
              go_meet
              exact ⟨b9, b10, a9, c9, a10, c10, rfl, rfl, B9, B10, Lib.hid HY.out.rd, Lib.hid HZ.out.rd, Lib.hid hHeld⟩
            · skip
              go_simp
              have hb : Below u.heap.size u (u.alloc (.cells #[.slice none 0 0, .int .i64 0] 29)) := (Below.refl _ _).alloc (Nat.le_refl _) _
              obtain ⟨b10, hbn⟩ : ∃ b, b = u.heap.size := ⟨_, rfl⟩
              have hq : Blk (u.alloc (.cells #[.slice none 0 0, .int .i64 0] 29)) b10 29 #[.slice none 0 0, .int .i64 0] := by rw [hbn]; exact Blk.new _ _ _
              try (have D10Y : b10 < ly ∨ hy ≤ b10 := .inr (by have := HY.out.2; omega))
              try (have D10Z : b10 < lz ∨ hz ≤ b10 := .inr (by have := HZ.out.2; omega))
              try (have D910 : b9 ≠ b10 := by have := B9.out.lt; omega)
              have N10 : w2.heap.size ≤ b10 := by have := hHeld.size; omega
              try (have HY := Lib.hid (HY.out.mv hb))
              try (have HZ := Lib.hid (HZ.out.mv hb))
              try (have B9 := Lib.hid (B9.out.call hb))
              try (have B10 := Lib.hid (B10.out.call hb))
              have B10 := Lib.hid hq
              clear hq
              obtain ⟨u8, hu8⟩ : ∃ z, z = (u.alloc (.cells #[.slice none 0 0, .int .i64 0] 29)) := ⟨_, rfl⟩
              rw [← hu8, ← hbn]
              rw [← hu8] at hb B10
              try rw [← hu8] at HY
              try rw [← hu8] at HZ
              try rw [← hu8] at B9
              try rw [← hu8] at B10
              clear hu8 hbn
              rename World => u
              refine hK.out _ _ (hHeld.trans (hb.mono hHeld.size)) (fun hHeld => ?_)
              clear hb
              clear hK K
              refine rd1 9 (fun K hK => ?_)
              go_simp
              go_at_call 14
              have hl := mv_rd R_Node_ok HL.out hHeld
              obtain ⟨lz, hlo⟩ : ∃ z, z = u.heap.size := ⟨_, rfl⟩
              refine (put_specA hl).mono ?_
              intro e u9 h
              rw [HD.out] at h
              obtain ⟨v10, rfl, hA10, hb⟩ := chgA_elim h
              obtain ⟨a10, c10, rfl, ho9⟩ := hA10.own
              obtain ⟨hz, hhi⟩ : ∃ z, z = u9.heap.size := ⟨_, rfl⟩
              have hN : OwY u9 lz hz Y a10 c10 := by rw [hlo, hhi]; exact ⟨ho9, Nat.le_refl _⟩
              try (have D9Z : b9 < lz ∨ hz ≤ b9 := .inl (by have := B9.out.lt; omega))
              try (have D10Z : b10 < lz ∨ hz ≤ b10 := .inl (by have := B10.out.lt; omega))
              try (have HY := Lib.hid (HY.out.mv hb))
              try (have HZ := Lib.hid (HZ.out.mv hb))
              try (have B9 := Lib.hid (B9.out.call hb))
              try (have B10 := Lib.hid (B10.out.call hb))
              have HZ := Lib.hid hN
              clear hl h hN hlo hhi ho9 hA10
              obtain ⟨u, hu9⟩ : ∃ z, z = u9 := ⟨_, rfl⟩
              subst hu9
              refine hK.out _ _ (hHeld.trans (hb.mono hHeld.size)) (fun hHeld => ?_)
              clear hb
              clear hK K
              refine rd1 12 (fun K hK => ?_)
              have k0 := B9.out.at_ 0 rfl
              have k1 := B9.out.at_ 1 rfl
              have k2 := B9.out.soft 0
              have k3 := B9.out.soft 1
              go_simp
              have hq : Blk ((u.setCell ⟨b9, 0, none⟩ (.slice a9 Y.length c9)).setCell ⟨b9, 1, none⟩ (.int .i64 cy)) b9 29 #[.slice a9 Y.length c9, .int .i64 cy] := ((B9.out.set 0 _).set 1 _).as rfl
              have hq2 := (B10.out.far (b := b9) (o := 0) (fun e => D910 e.symm) (.slice a9 Y.length c9)).far (b := b9) (o := 1) (fun e => D910 e.symm) (.int .i64 cy)
              have hqY : OwY ((u.setCell ⟨b9, 0, none⟩ (.slice a9 Y.length c9)).setCell ⟨b9, 1, none⟩ (.int .i64 cy)) ly hy Y a9 c9 := (HY.out.far D9Y 0 _).far D9Y 1 _
              have hqZ : OwY ((u.setCell ⟨b9, 0, none⟩ (.slice a9 Y.length c9)).setCell ⟨b9, 1, none⟩ (.int .i64 cy)) lz hz Y a10 c10 := (HZ.out.far D9Z 0 _).far D9Z 1 _
              have hh : Below w2.heap.size w2 ((u.setCell ⟨b9, 0, none⟩ (.slice a9 Y.length c9)).setCell ⟨b9, 1, none⟩ (.int .i64 cy)) := (hHeld.setCell (p := ⟨b9, 0, none⟩) N9 _).setCell (p := ⟨b9, 1, none⟩) N9 _
              obtain ⟨u8, hu8⟩ : ∃ z, z = ((u.setCell ⟨b9, 0, none⟩ (.slice a9 Y.length c9)).setCell ⟨b9, 1, none⟩ (.int .i64 cy)) := ⟨_, rfl⟩
              rw [← hu8] at hq hq2 hqY hqZ hh ⊢
              have B9 := Lib.hid hq
              have B10 := Lib.hid hq2
              have HY := Lib.hid hqY
              have HZ := Lib.hid hqZ
              clear hq hq2 hqY hqZ hu8 k0 k1 k2 k3
              rename World => u
              refine hK.out _ _ hh (fun hHeld => ?_)
              clear hh
              clear hK K
              refine rd1 13 (fun K hK => ?_)
              have k0 := B10.out.at_ 0 rfl
              have k1 := B10.out.at_ 1 rfl
              have k2 := B10.out.soft 0
              have k3 := B10.out.soft 1
              go_simp
              have hq : Blk ((u.setCell ⟨b10, 0, none⟩ (.slice a10 Y.length c10)).setCell ⟨b10, 1, none⟩ (.int .i64 cy)) b10 29 #[.slice a10 Y.length c10, .int .i64 cy] := ((B10.out.set 0 _).set 1 _).as rfl
              have hq2 := (B9.out.far (b := b10) (o := 0) D910 (.slice a10 Y.length c10)).far (b := b10) (o := 1) D910 (.int .i64 cy)
              have hqY : OwY ((u.setCell ⟨b10, 0, none⟩ (.slice a10 Y.length c10)).setCell ⟨b10, 1, none⟩ (.int .i64 cy)) ly hy Y a9 c9 := (HY.out.far D10Y 0 _).far D10Y 1 _
              have hqZ : OwY ((u.setCell ⟨b10, 0, none⟩ (.slice a10 Y.length c10)).setCell ⟨b10, 1, none⟩ (.int .i64 cy)) lz hz Y a10 c10 := (HZ.out.far D10Z 0 _).far D10Z 1 _
              have hh : Below w2.heap.size w2 ((u.setCell ⟨b10, 0, none⟩ (.slice a10 Y.length c10)).setCell ⟨b10, 1, none⟩ (.int .i64 cy)) := (hHeld.setCell (p := ⟨b10, 0, none⟩) N10 _).setCell (p := ⟨b10, 1, none⟩) N10 _
              obtain ⟨u8, hu8⟩ : ∃ z, z = ((u.setCell ⟨b10, 0, none⟩ (.slice a10 Y.length c10)).setCell ⟨b10, 1, none⟩ (.int .i64 cy)) := ⟨_, rfl⟩
              rw [← hu8] at hq hq2 hqY hqZ hh ⊢
              have B10 := Lib.hid hq
              have B9 := Lib.hid hq2
              have HY := Lib.hid hqY
              have HZ := Lib.hid hqZ
              clear hq hq2 hqY hqZ hu8 k0 k1 k2 k3
              rename World => u
              refine hK.out _ _ hh (fun hHeld => ?_)
              clear hh
              clear hK K
              refine rd0 ?_
              go_wp2
              go_meet
              exact ⟨b9, b10, a9, c9, a10, c10, rfl, rfl, B9, B10, Lib.hid HY.out.rd, Lib.hid HZ.out.rd, Lib.hid hHeld⟩
          · skip
            go_simp
            have hb : Below u.heap.size u (u.alloc (.cells #[.slice none 0 0, .int .i64 0] 29)) := (Below.refl _ _).alloc (Nat.le_refl _) _
            obtain ⟨b10, hbn⟩ : ∃ b, b = u.heap.size := ⟨_, rfl⟩
            have hq : Blk (u.alloc (.cells #[.slice none 0 0, .int .i64 0] 29)) b10 29 #[.slice none 0 0, .int .i64 0] := by rw [hbn]; exact Blk.new _ _ _
            try (have D10Y : b10 < ly ∨ hy ≤ b10 := .inr (by have := HY.out.2; omega))
            try (have D10Z : b10 < lz ∨ hz ≤ b10 := .inr (by have := HZ.out.2; omega))
            try (have D910 : b9 ≠ b10 := by have := B9.out.lt; omega)
            have N10 : w2.heap.size ≤ b10 := by have := hHeld.size; omega
            try (have HY := Lib.hid (HY.out.mv hb))
            try (have HZ := Lib.hid (HZ.out.mv hb))
            try (have B9 := Lib.hid (B9.out.call hb))
            try (have B10 := Lib.hid (B10.out.call hb))
            have B10 := Lib.hid hq
            clear hq
            obtain ⟨u8, hu8⟩ : ∃ z, z = (u.alloc (.cells #[.slice none 0 0, .int .i64 0] 29)) := ⟨_, rfl⟩
            rw [← hu8, ← hbn]
            rw [← hu8] at hb B10
            try rw [← hu8] at HY
            try rw [← hu8] at HZ
            try rw [← hu8] at B9
            try rw [← hu8] at B10
            clear hu8 hbn
            rename World => u
            refine hK.out _ _ (hHeld.trans (hb.mono hHeld.size)) (fun hHeld => ?_)
            clear hb
            clear hK K
            refine rd1 4 (fun K hK => ?_)
            go_simp
            go_at_call 13
            have hl := mv_rd R_Node_ok HL.out hHeld
            obtain ⟨ly, hlo⟩ : ∃ z, z = u.heap.size := ⟨_, rfl⟩
            refine (put_impl2 hl).mono ?_
            intro e u9 h
            rw [HD.out] at h
            obtain ⟨us, rfl, hu, hb⟩ := newV_elim h
            obtain ⟨a9, c9, T9, rfl, hT9, ho9⟩ := ow_NodesOut hu
            obtain ⟨hy, hhi⟩ : ∃ z, z = u9.heap.size := ⟨_, rfl⟩
            have hN : OwY u9 ly hy Y a9 c9 := by rw [hlo, hhi]; exact ⟨ho9.more fun k hk => hT9 k hk, Nat.le_refl _⟩
            try (have D9Y : b9 < ly ∨ hy ≤ b9 := .inl (by have := B9.out.lt; omega))
            try (have D10Y : b10 < ly ∨ hy ≤ b10 := .inl (by have := B10.out.lt; omega))
            try (have HY := Lib.hid (HY.out.mv hb))
            try (have HZ := Lib.hid (HZ.out.mv hb))
            try (have B9 := Lib.hid (B9.out.call hb))
            try (have B10 := Lib.hid (B10.out.call hb))
            have HY := Lib.hid hN
            clear hl h hN hlo hhi ho9 hu hT9
            obtain ⟨u, hu9⟩ : ∃ z, z = u9 := ⟨_, rfl⟩
            subst hu9
            refine hK.out _ _ (hHeld.trans (hb.mono hHeld.size)) (fun hHeld => ?_)
            clear hb
            clear hK K
            refine rd1 9 (fun K hK => ?_)
            go_simp
            go_at_call 14
            have hl := mv_rd R_Node_ok HL.out hHeld
            obtain ⟨lz, hlo⟩ : ∃ z, z = u.heap.size := ⟨_, rfl⟩
            refine (put_specA hl).mono ?_
            intro e u9 h
            rw [HD.out] at h
            obtain ⟨v10, rfl, hA10, hb⟩ := chgA_elim h
            obtain ⟨a10, c10, rfl, ho9⟩ := hA10.own
            obtain ⟨hz, hhi⟩ : ∃ z, z = u9.heap.size := ⟨_, rfl⟩
            have hN : OwY u9 lz hz Y a10 c10 := by rw [hlo, hhi]; exact ⟨ho9, Nat.le_refl _⟩
            try (have D9Z : b9 < lz ∨ hz ≤ b9 := .inl (by have := B9.out.lt; omega))
            try (have D10Z : b10 < lz ∨ hz ≤ b10 := .inl (by have := B10.out.lt; omega))
            try (have HY := Lib.hid (HY.out.mv hb))
            try (have HZ := Lib.hid (HZ.out.mv hb))
            try (have B9 := Lib.hid (B9.out.call hb))
            try (have B10 := Lib.hid (B10.out.call hb))
            have HZ := Lib.hid hN
            clear hl h hN hlo hhi ho9 hA10
            obtain ⟨u, hu9⟩ : ∃ z, z = u9 := ⟨_, rfl⟩
            subst hu9
            refine hK.out _ _ (hHeld.trans (hb.mono hHeld.size)) (fun hHeld => ?_)
            clear hb
            clear hK K
            refine rd1 12 (fun K hK => ?_)
            have k0 := B9.out.at_ 0 rfl
            have k1 := B9.out.at_ 1 rfl
            have k2 := B9.out.soft 0
            have k3 := B9.out.soft 1
            go_simp
            have hq : Blk ((u.setCell ⟨b9, 0, none⟩ (.slice a9 Y.length c9)).setCell ⟨b9, 1, none⟩ (.int .i64 cy)) b9 29 #[.slice a9 Y.length c9, .int .i64 cy] := ((B9.out.set 0 _).set 1 _).as rfl
            have hq2 := (B10.out.far (b := b9) (o := 0) (fun e => D910 e.symm) (.slice a9 Y.length c9)).far (b := b9) (o := 1) (fun e => D910 e.symm) (.int .i64 cy)
            have hqY : OwY ((u.setCell ⟨b9, 0, none⟩ (.slice a9 Y.length c9)).setCell ⟨b9, 1, none⟩ (.int .i64 cy)) ly hy Y a9 c9 := (HY.out.far D9Y 0 _).far D9Y 1 _
            have hqZ : OwY ((u.setCell ⟨b9, 0, none⟩ (.slice a9 Y.length c9)).setCell ⟨b9, 1, none⟩ (.int .i64 cy)) lz hz Y a10 c10 := (HZ.out.far D9Z 0 _).far D9Z 1 _
            have hh : Below w2.heap.size w2 ((u.setCell ⟨b9, 0, none⟩ (.slice a9 Y.length c9)).setCell ⟨b9, 1, none⟩ (.int .i64 cy)) := (hHeld.setCell (p := ⟨b9, 0, none⟩) N9 _).setCell (p := ⟨b9, 1, none⟩) N9 _
            obtain ⟨u8, hu8⟩ : ∃ z, z = ((u.setCell ⟨b9, 0, none⟩ (.slice a9 Y.length c9)).setCell ⟨b9, 1, none⟩ (.int .i64 cy)) := ⟨_, rfl⟩
            rw [← hu8] at hq hq2 hqY hqZ hh ⊢
            have B9 := Lib.hid hq
            have B10 := Lib.hid hq2
            have HY := Lib.hid hqY
            have HZ := Lib.hid hqZ
            clear hq hq2 hqY hqZ hu8 k0 k1 k2 k3
            rename World => u
            refine hK.out _ _ hh (fun hHeld => ?_)
            clear hh
            clear hK K
            refine rd1 13 (fun K hK => ?_)
            have k0 := B10.out.at_ 0 rfl
            have k1 := B10.out.at_ 1 rfl
            have k2 := B10.out.soft 0
            have k3 := B10.out.soft 1
            go_simp
            have hq : Blk ((u.setCell ⟨b10, 0, none⟩ (.slice a10 Y.length c10)).setCell ⟨b10, 1, none⟩ (.int .i64 cy)) b10 29 #[.slice a10 Y.length c10, .int .i64 cy] := ((B10.out.set 0 _).set 1 _).as rfl
            have hq2 := (B9.out.far (b := b10) (o := 0) D910 (.slice a10 Y.length c10)).far (b := b10) (o := 1) D910 (.int .i64 cy)
            have hqY : OwY ((u.setCell ⟨b10, 0, none⟩ (.slice a10 Y.length c10)).setCell ⟨b10, 1, none⟩ (.int .i64 cy)) ly hy Y a9 c9 := (HY.out.far D10Y 0 _).far D10Y 1 _
            have hqZ : OwY ((u.setCell ⟨b10, 0, none⟩ (.slice a10 Y.length c10)).setCell ⟨b10, 1, none⟩ (.int .i64 cy)) lz hz Y a10 c10 := (HZ.out.far D10Z 0 _).far D10Z 1 _
            have hh : Below w2.heap.size w2 ((u.setCell ⟨b10, 0, none⟩ (.slice a10 Y.length c10)).setCell ⟨b10, 1, none⟩ (.int .i64 cy)) := (hHeld.setCell (p := ⟨b10, 0, none⟩) N10 _).setCell (p := ⟨b10, 1, none⟩) N10 _
            obtain ⟨u8, hu8⟩ : ∃ z, z = ((u.setCell ⟨b10, 0, none⟩ (.slice a10 Y.length c10)).setCell ⟨b10, 1, none⟩ (.int .i64 cy)) := ⟨_, rfl⟩
            rw [← hu8] at hq hq2 hqY hqZ hh ⊢
            have B10 := Lib.hid hq
            have B9 := Lib.hid hq2
            have HY := Lib.hid hqY
            have HZ := Lib.hid hqZ
            clear hq hq2 hqY hqZ hu8 k0 k1 k2 k3
            rename World => u
            refine hK.out _ _ hh (fun hHeld => ?_)
            clear hh
            clear hK K
            refine rd0 ?_
            go_wp2
            go_meet
            exact ⟨b9, b10, a9, c9, a10, c10, rfl, rfl, B9, B10, Lib.hid HY.out.rd, Lib.hid HZ.out.rd, Lib.hid hHeld⟩
        · skip
          go_simp
          have hb : Below u.heap.size u (u.alloc (.cells #[.slice none 0 0, .int .i64 0] 29)) := (Below.refl _ _).alloc (Nat.le_refl _) _
          obtain ⟨b10, hbn⟩ : ∃ b, b = u.heap.size := ⟨_, rfl⟩
          have hq : Blk (u.alloc (.cells #[.slice none 0 0, .int .i64 0] 29)) b10 29 #[.slice none 0 0, .int .i64 0] := by rw [hbn]; exact Blk.new _ _ _
          try (have D10Y : b10 < ly ∨ hy ≤ b10 := .inr (by have := HY.out.2; omega))
          try (have D10Z : b10 < lz ∨ hz ≤ b10 := .inr (by have := HZ.out.2; omega))
          try (have D910 : b9 ≠ b10 := by have := B9.out.lt; omega)
          have N10 : w2.heap.size ≤ b10 := by have := hHeld.size; omega
          try (have HY := Lib.hid (HY.out.mv hb))
          try (have HZ := Lib.hid (HZ.out.mv hb))
          try (have B9 := Lib.hid (B9.out.call hb))
          try (have B10 := Lib.hid (B10.out.call hb))
          have B10 := Lib.hid hq
          clear hq
          obtain ⟨u8, hu8⟩ : ∃ z, z = (u.alloc (.cells #[.slice none 0 0, .int .i64 0] 29)) := ⟨_, rfl⟩
          rw [← hu8, ← hbn]
          rw [← hu8] at hb B10
          try rw [← hu8] at HY
          try rw [← hu8] at HZ
          try rw [← hu8] at B9
          try rw [← hu8] at B10
          clear hu8 hbn
          rename World => u
          refine hK.out _ _ (hHeld.trans (hb.mono hHeld.size)) (fun hHeld => ?_)
          clear hb
          clear hK K
          refine rd2 4 10 (fun K hK => ?_) (fun K hK => ?_)
          · skip
            go_simp
            go_at_call 13
            have hl := mv_rd R_Node_ok HL.out hHeld
            obtain ⟨ly, hlo⟩ : ∃ z, z = u.heap.size := ⟨_, rfl⟩
            refine (put_impl2 hl).mono ?_
            intro e u9 h
            rw [HD.out] at h
            obtain ⟨us, rfl, hu, hb⟩ := newV_elim h
            obtain ⟨a9, c9, T9, rfl, hT9, ho9⟩ := ow_NodesOut hu
            obtain ⟨hy, hhi⟩ : ∃ z, z = u9.heap.size := ⟨_, rfl⟩
            have hN : OwY u9 ly hy Y a9 c9 := by rw [hlo, hhi]; exact ⟨ho9.more fun k hk => hT9 k hk, Nat.le_refl _⟩
            try (have D9Y : b9 < ly ∨ hy ≤ b9 := .inl (by have := B9.out.lt; omega))
            try (have D10Y : b10 < ly ∨ hy ≤ b10 := .inl (by have := B10.out.lt; omega))
            try (have HY := Lib.hid (HY.out.mv hb))
            try (have HZ := Lib.hid (HZ.out.mv hb))
            try (have B9 := Lib.hid (B9.out.call hb))
            try (have B10 := Lib.hid (B10.out.call hb))
            have HY := Lib.hid hN
            clear hl h hN hlo hhi ho9 hu hT9
            obtain ⟨u, hu9⟩ : ∃ z, z = u9 := ⟨_, rfl⟩
            subst hu9
            refine hK.out _ _ (hHeld.trans (hb.mono hHeld.size)) (fun hHeld => ?_)
            clear hb
            clear hK K
            refine rd2 9 10 (fun K hK => ?_) (fun K hK => ?_)
            · skip
              go_simp
              go_at_call 14
              have hl := mv_rd R_Node_ok HL.out hHeld
              obtain ⟨lz, hlo⟩ : ∃ z, z = u.heap.size := ⟨_, rfl⟩
              refine (put_specA hl).mono ?_
              intro e u9 h
              rw [HD.out] at h
              obtain ⟨v10, rfl, hA10, hb⟩ := chgA_elim h
              obtain ⟨a10, c10, rfl, ho9⟩ := hA10.own
              obtain ⟨hz, hhi⟩ : ∃ z, z = u9.heap.size := ⟨_, rfl⟩
              have hN : OwY u9 lz hz Y a10 c10 := by rw [hlo, hhi]; exact ⟨ho9, Nat.le_refl _⟩
              try (have D9Z : b9 < lz ∨ hz ≤ b9 := .inl (by have := B9.out.lt; omega))
              try (have D10Z : b10 < lz ∨ hz ≤ b10 := .inl (by have := B10.out.lt; omega))
              try (have HY := Lib.hid (HY.out.mv hb))
              try (have HZ := Lib.hid (HZ.out.mv hb))
              try (have B9 := Lib.hid (B9.out.call hb))
              try (have B10 := Lib.hid (B10.out.call hb))
              have HZ := Lib.hid hN
              clear hl h hN hlo hhi ho9 hA10
              obtain ⟨u, hu9⟩ : ∃ z, z = u9 := ⟨_, rfl⟩
              subst hu9
              refine hK.out _ _ (hHeld.trans (hb.mono hHeld.size)) (fun hHeld => ?_)
              clear hb
              clear hK K
              refine rd1 10 (fun K hK => ?_)
              go_simp
              have hb : Below u.heap.size u (u.alloc (.cells #[.slice none 0 0, .int .i64 0] 29)) := (Below.refl _ _).alloc (Nat.le_refl _) _
              obtain ⟨b9, hbn⟩ : ∃ b, b = u.heap.size := ⟨_, rfl⟩
              have hq : Blk (u.alloc (.cells #[.slice none 0 0, .int .i64 0] 29)) b9 29 #[.slice none 0 0, .int .i64 0] := by rw [hbn]; exact Blk.new _ _ _
              try (have D9Y : b9 < ly ∨ hy ≤ b9 := .inr (by have := HY.out.2; omega))
              try (have D9Z : b9 < lz ∨ hz ≤ b9 := .inr (by have := HZ.out.2; omega))
              try (have D910 : b9 ≠ b10 := by have := B10.out.lt; omega)
              have N9 : w2.heap.size ≤ b9 := by have := hHeld.size; omega
              try (have HY := Lib.hid (HY.out.mv hb))
              try (have HZ := Lib.hid (HZ.out.mv hb))
              try (have B9 := Lib.hid (B9.out.call hb))
              try (have B10 := Lib.hid (B10.out.call hb))
              have B9 := Lib.hid hq
              clear hq
              obtain ⟨u8, hu8⟩ : ∃ z, z = (u.alloc (.cells #[.slice none 0 0, .int .i64 0] 29)) := ⟨_, rfl⟩
              rw [← hu8, ← hbn]
              rw [← hu8] at hb B9
              try rw [← hu8] at HY
              try rw [← hu8] at HZ
              try rw [← hu8] at B9
              try rw [← hu8] at B10
              clear hu8 hbn
              rename World => u
              refine hK.out _ _ (hHeld.trans (hb.mono hHeld.size)) (fun hHeld => ?_)
              clear hb
              clear hK K
              refine rd1 12 (fun K hK => ?_)
              have k0 := B9.out.at_ 0 rfl
              have k1 := B9.out.at_ 1 rfl
              have k2 := B9.out.soft 0
              have k3 := B9.out.soft 1
              go_simp
              have hq : Blk ((u.setCell ⟨b9, 0, none⟩ (.slice a9 Y.length c9)).setCell ⟨b9, 1, none⟩ (.int .i64 cy)) b9 29 #[.slice a9 Y.length c9, .int .i64 cy] := ((B9.out.set 0 _).set 1 _).as rfl
              have hq2 := (B10.out.far (b := b9) (o := 0) (fun e => D910 e.symm) (.slice a9 Y.length c9)).far (b := b9) (o := 1) (fun e => D910 e.symm) (.int .i64 cy)
              have hqY : OwY ((u.setCell ⟨b9, 0, none⟩ (.slice a9 Y.length c9)).setCell ⟨b9, 1, none⟩ (.int .i64 cy)) ly hy Y a9 c9 := (HY.out.far D9Y 0 _).far D9Y 1 _
              have hqZ : OwY ((u.setCell ⟨b9, 0, none⟩ (.slice a9 Y.length c9)).setCell ⟨b9, 1, none⟩ (.int .i64 cy)) lz hz Y a10 c10 := (HZ.out.far D9Z 0 _).far D9Z 1 _
              have hh : Below w2.heap.size w2 ((u.setCell ⟨b9, 0, none⟩ (.slice a9 Y.length c9)).setCell ⟨b9, 1, none⟩ (.int .i64 cy)) := (hHeld.setCell (p := ⟨b9, 0, none⟩) N9 _).setCell (p := ⟨b9, 1, none⟩) N9 _
              obtain ⟨u8, hu8⟩ : ∃ z, z = ((u.setCell ⟨b9, 0, none⟩ (.slice a9 Y.length c9)).setCell ⟨b9, 1, none⟩ (.int .i64 cy)) := ⟨_, rfl⟩
              rw [← hu8] at hq hq2 hqY hqZ hh ⊢
              have B9 := Lib.hid hq
              have B10 := Lib.hid hq2
              have HY := Lib.hid hqY
              have HZ := Lib.hid hqZ
              clear hq hq2 hqY hqZ hu8 k0 k1 k2 k3
              rename World => u
              refine hK.out _ _ hh (fun hHeld => ?_)
              clear hh
              clear hK K
              refine rd1 13 (fun K hK => ?_)
              have k0 := B10.out.at_ 0 rfl
              have k1 := B10.out.at_ 1 rfl
              have k2 := B10.out.soft 0
              have k3 := B10.out.soft 1
              go_simp
              have hq : Blk ((u.setCell ⟨b10, 0, none⟩ (.slice a10 Y.length c10)).setCell ⟨b10, 1, none⟩ (.int .i64 cy)) b10 29 #[.slice a10 Y.length c10, .int .i64 cy] := ((B10.out.set 0 _).set 1 _).as rfl
              have hq2 := (B9.out.far (b := b10) (o := 0) D910 (.slice a10 Y.length c10)).far (b := b10) (o := 1) D910 (.int .i64 cy)
              have hqY : OwY ((u.setCell ⟨b10, 0, none⟩ (.slice a10 Y.length c10)).setCell ⟨b10, 1, none⟩ (.int .i64 cy)) ly hy Y a9 c9 := (HY.out.far D10Y 0 _).far D10Y 1 _
              have hqZ : OwY ((u.setCell ⟨b10, 0, none⟩ (.slice a10 Y.length c10)).setCell ⟨b10, 1, none⟩ (.int .i64 cy)) lz hz Y a10 c10 := (HZ.out.far D10Z 0 _).far D10Z 1 _
              have hh : Below w2.heap.size w2 ((u.setCell ⟨b10, 0, none⟩ (.slice a10 Y.length c10)).setCell ⟨b10, 1, none⟩ (.int .i64 cy)) := (hHeld.setCell (p := ⟨b10, 0, none⟩) N10 _).setCell (p := ⟨b10, 1, none⟩) N10 _
              obtain ⟨u8, hu8⟩ : ∃ z, z = ((u.setCell ⟨b10, 0, none⟩ (.slice a10 Y.length c10)).setCell ⟨b10, 1, none⟩ (.int .i64 cy)) := ⟨_, rfl⟩
              rw [← hu8] at hq hq2 hqY hqZ hh ⊢
              have B10 := Lib.hid hq
              have B9 := Lib.hid hq2
              have HY := Lib.hid hqY
              have HZ := Lib.hid hqZ
              clear hq hq2 hqY hqZ hu8 k0 k1 k2 k3
              rename World => u
              refine hK.out _ _ hh (fun hHeld => ?_)
              clear hh
              clear hK K
              refine rd0 ?_
              go_wp2
              go_meet
              exact ⟨b9, b10, a9, c9, a10, c10, rfl, rfl, B9, B10, Lib.hid HY.out.rd, Lib.hid HZ.out.rd, Lib.hid hHeld⟩
            · skip
              go_simp
              have hb : Below u.heap.size u (u.alloc (.cells #[.slice none 0 0, .int .i64 0] 29)) := (Below.refl _ _).alloc (Nat.le_refl _) _
              obtain ⟨b9, hbn⟩ : ∃ b, b = u.heap.size := ⟨_, rfl⟩
              have hq : Blk (u.alloc (.cells #[.slice none 0 0, .int .i64 0] 29)) b9 29 #[.slice none 0 0, .int .i64 0] := by rw [hbn]; exact Blk.new _ _ _
              try (have D9Y : b9 < ly ∨ hy ≤ b9 := .inr (by have := HY.out.2; omega))
              try (have D9Z : b9 < lz ∨ hz ≤ b9 := .inr (by have := HZ.out.2; omega))
              try (have D910 : b9 ≠ b10 := by have := B10.out.lt; omega)
              have N9 : w2.heap.size ≤ b9 := by have := hHeld.size; omega
              try (have HY := Lib.hid (HY.out.mv hb))
              try (have HZ := Lib.hid (HZ.out.mv hb))
              try (have B9 := Lib.hid (B9.out.call hb))
              try (have B10 := Lib.hid (B10.out.call hb))
              have B9 := Lib.hid hq
              clear hq
              obtain ⟨u8, hu8⟩ : ∃ z, z = (u.alloc (.cells #[.slice none 0 0, .int .i64 0] 29)) := ⟨_, rfl⟩
              rw [← hu8, ← hbn]
              rw [← hu8] at hb B9
              try rw [← hu8] at HY
              try rw [← hu8] at HZ
              try rw [← hu8] at B9
              try rw [← hu8] at B10
              clear hu8 hbn
              rename World => u
              refine hK.out _ _ (hHeld.trans (hb.mono hHeld.size)) (fun hHeld => ?_)
              clear hb
              clear hK K
              refine rd1 9 (fun K hK => ?_)
              go_simp
              go_at_call 14
              have hl := mv_rd R_Node_ok HL.out hHeld
              obtain ⟨lz, hlo⟩ : ∃ z, z = u.heap.size := ⟨_, rfl⟩
              refine (put_specA hl).mono ?_
              intro e u9 h
              rw [HD.out] at h
              obtain ⟨v10, rfl, hA10, hb⟩ := chgA_elim h
              obtain ⟨a10, c10, rfl, ho9⟩ := hA10.own
              obtain ⟨hz, hhi⟩ : ∃ z, z = u9.heap.size := ⟨_, rfl⟩
              have hN : OwY u9 lz hz Y a10 c10 := by rw [hlo, hhi]; exact ⟨ho9, Nat.le_refl _⟩
              try (have D9Z : b9 < lz ∨ hz ≤ b9 := .inl (by have := B9.out.lt; omega))
              try (have D10Z : b10 < lz ∨ hz ≤ b10 := .inl (by have := B10.out.lt; omega))
              try (have HY := Lib.hid (HY.out.mv hb))
              try (have HZ := Lib.hid (HZ.out.mv hb))
              try (have B9 := Lib.hid (B9.out.call hb))
              try (have B10 := Lib.hid (B10.out.call hb))
              have HZ := Lib.hid hN
              clear hl h hN hlo hhi ho9 hA10
              obtain ⟨u, hu9⟩ : ∃ z, z = u9 := ⟨_, rfl⟩
              subst hu9
              refine hK.out _ _ (hHeld.trans (hb.mono hHeld.size)) (fun hHeld => ?_)
              clear hb
              clear hK K
              refine rd1 12 (fun K hK => ?_)
              have k0 := B9.out.at_ 0 rfl
              have k1 := B9.out.at_ 1 rfl
              have k2 := B9.out.soft 0
              have k3 := B9.out.soft 1
              go_simp
              have hq : Blk ((u.setCell ⟨b9, 0, none⟩ (.slice a9 Y.length c9)).setCell ⟨b9, 1, none⟩ (.int .i64 cy)) b9 29 #[.slice a9 Y.length c9, .int .i64 cy] := ((B9.out.set 0 _).set 1 _).as rfl
              have hq2 := (B10.out.far (b := b9) (o := 0) (fun e => D910 e.symm) (.slice a9 Y.length c9)).far (b := b9) (o := 1) (fun e => D910 e.symm) (.int .i64 cy)
              have hqY : OwY ((u.setCell ⟨b9, 0, none⟩ (.slice a9 Y.length c9)).setCell ⟨b9, 1, none⟩ (.int .i64 cy)) ly hy Y a9 c9 := (HY.out.far D9Y 0 _).far D9Y 1 _
              have hqZ : OwY ((u.setCell ⟨b9, 0, none⟩ (.slice a9 Y.length c9)).setCell ⟨b9, 1, none⟩ (.int .i64 cy)) lz hz Y a10 c10 := (HZ.out.far D9Z 0 _).far D9Z 1 _
              have hh : Below w2.heap.size w2 ((u.setCell ⟨b9, 0, none⟩ (.slice a9 Y.length c9)).setCell ⟨b9, 1, none⟩ (.int .i64 cy)) := (hHeld.setCell (p := ⟨b9, 0, none⟩) N9 _).setCell (p := ⟨b9, 1, none⟩) N9 _
              obtain ⟨u8, hu8⟩ : ∃ z, z = ((u.setCell ⟨b9, 0, none⟩ (.slice a9 Y.length c9)).setCell ⟨b9, 1, none⟩ (.int .i64 cy)) := ⟨_, rfl⟩
              rw [← hu8] at hq hq2 hqY hqZ hh ⊢
              have B9 := Lib.hid hq
              have B10 := Lib.hid hq2
              have HY := Lib.hid hqY
              have HZ := Lib.hid hqZ
              clear hq hq2 hqY hqZ hu8 k0 k1 k2 k3
              rename World => u
              refine hK.out _ _ hh (fun hHeld => ?_)
              clear hh
              clear hK K
              refine rd1 13 (fun K hK => ?_)
              have k0 := B10.out.at_ 0 rfl
              have k1 := B10.out.at_ 1 rfl
              have k2 := B10.out.soft 0
              have k3 := B10.out.soft 1
              go_simp
              have hq : Blk ((u.setCell ⟨b10, 0, none⟩ (.slice a10 Y.length c10)).setCell ⟨b10, 1, none⟩ (.int .i64 cy)) b10 29 #[.slice a10 Y.length c10, .int .i64 cy] := ((B10.out.set 0 _).set 1 _).as rfl
              have hq2 := (B9.out.far (b := b10) (o := 0) D910 (.slice a10 Y.length c10)).far (b := b10) (o := 1) D910 (.int .i64 cy)
              have hqY : OwY ((u.setCell ⟨b10, 0, none⟩ (.slice a10 Y.length c10)).setCell ⟨b10, 1, none⟩ (.int .i64 cy)) ly hy Y a9 c9 := (HY.out.far D10Y 0 _).far D10Y 1 _
              have hqZ : OwY ((u.setCell ⟨b10, 0, none⟩ (.slice a10 Y.length c10)).setCell ⟨b10, 1, none⟩ (.int .i64 cy)) lz hz Y a10 c10 := (HZ.out.far D10Z 0 _).far D10Z 1 _
              have hh : Below w2.heap.size w2 ((u.setCell ⟨b10, 0, none⟩ (.slice a10 Y.length c10)).setCell ⟨b10, 1, none⟩ (.int .i64 cy)) := (hHeld.setCell (p := ⟨b10, 0, none⟩) N10 _).setCell (p := ⟨b10, 1, none⟩) N10 _
              obtain ⟨u8, hu8⟩ : ∃ z, z = ((u.setCell ⟨b10, 0, none⟩ (.slice a10 Y.length c10)).setCell ⟨b10, 1, none⟩ (.int .i64 cy)) := ⟨_, rfl⟩
              rw [← hu8] at hq hq2 hqY hqZ hh ⊢
              have B10 := Lib.hid hq
              have B9 := Lib.hid hq2
              have HY := Lib.hid hqY
              have HZ := Lib.hid hqZ
              clear hq hq2 hqY hqZ hu8 k0 k1 k2 k3
              rename World => u
              refine hK.out _ _ hh (fun hHeld => ?_)
              clear hh
              clear hK K
              refine rd0 ?_
              go_wp2
              go_meet
              exact ⟨b9, b10, a9, c9, a10, c10, rfl, rfl, B9, B10, Lib.hid HY.out.rd, Lib.hid HZ.out.rd, Lib.hid hHeld⟩
          · skip
            go_simp
            have hb : Below u.heap.size u (u.alloc (.cells #[.slice none 0 0, .int .i64 0] 29)) := (Below.refl _ _).alloc (Nat.le_refl _) _
            obtain ⟨b9, hbn⟩ : ∃ b, b = u.heap.size := ⟨_, rfl⟩
            have hq : Blk (u.alloc (.cells #[.slice none 0 0, .int .i64 0] 29)) b9 29 #[.slice none 0 0, .int .i64 0] := by rw [hbn]; exact Blk.new _ _ _
            try (have D9Y : b9 < ly ∨ hy ≤ b9 := .inr (by have := HY.out.2; omega))
            try (have D9Z : b9 < lz ∨ hz ≤ b9 := .inr (by have := HZ.out.2; omega))
            try (have D910 : b9 ≠ b10 := by have := B10.out.lt; omega)
            have N9 : w2.heap.size ≤ b9 := by have := hHeld.size; omega
            try (have HY := Lib.hid (HY.out.mv hb))
            try (have HZ := Lib.hid (HZ.out.mv hb))
            try (have B9 := Lib.hid (B9.out.call hb))
            try (have B10 := Lib.hid (B10.out.call hb))
            have B9 := Lib.hid hq
            clear hq
            obtain ⟨u8, hu8⟩ : ∃ z, z = (u.alloc (.cells #[.slice none 0 0, .int .i64 0] 29)) := ⟨_, rfl⟩
            rw [← hu8, ← hbn]
            rw [← hu8] at hb B9
            try rw [← hu8] at HY
            try rw [← hu8] at HZ
            try rw [← hu8] at B9
            try rw [← hu8] at B10
            clear hu8 hbn
            rename World => u
            refine hK.out _ _ (hHeld.trans (hb.mono hHeld.size)) (fun hHeld => ?_)
            clear hb
            clear hK K
            refine rd1 4 (fun K hK => ?_)
            go_simp
            go_at_call 13
            have hl := mv_rd R_Node_ok HL.out hHeld
            obtain ⟨ly, hlo⟩ : ∃ z, z = u.heap.size := ⟨_, rfl⟩
            refine (put_impl2 hl).mono ?_
            intro e u9 h
            rw [HD.out] at h
            obtain ⟨us, rfl, hu, hb⟩ := newV_elim h
            obtain ⟨a9, c9, T9, rfl, hT9, ho9⟩ := ow_NodesOut hu
            obtain ⟨hy, hhi⟩ : ∃ z, z = u9.heap.size := ⟨_, rfl⟩
            have hN : OwY u9 ly hy Y a9 c9 := by rw [hlo, hhi]; exact ⟨ho9.more fun k hk => hT9 k hk, Nat.le_refl _⟩
            try (have D9Y : b9 < ly ∨ hy ≤ b9 := .inl (by have := B9.out.lt; omega))
            try (have D10Y : b10 < ly ∨ hy ≤ b10 := .inl (by have := B10.out.lt; omega))
            try (have HY := Lib.hid (HY.out.mv hb))
            try (have HZ := Lib.hid (HZ.out.mv hb))
            try (have B9 := Lib.hid (B9.out.call hb))
            try (have B10 := Lib.hid (B10.out.call hb))
            have HY := Lib.hid hN
            clear hl h hN hlo hhi ho9 hu hT9
            obtain ⟨u, hu9⟩ : ∃ z, z = u9 := ⟨_, rfl⟩
            subst hu9
            refine hK.out _ _ (hHeld.trans (hb.mono hHeld.size)) (fun hHeld => ?_)
            clear hb
            clear hK K
            refine rd1 9 (fun K hK => ?_)
            go_simp
            go_at_call 14
            have hl := mv_rd R_Node_ok HL.out hHeld
            obtain ⟨lz, hlo⟩ : ∃ z, z = u.heap.size := ⟨_, rfl⟩
            refine (put_specA hl).mono ?_
            intro e u9 h
            rw [HD.out] at h
            obtain ⟨v10, rfl, hA10, hb⟩ := chgA_elim h
            obtain ⟨a10, c10, rfl, ho9⟩ := hA10.own
            obtain ⟨hz, hhi⟩ : ∃ z, z = u9.heap.size := ⟨_, rfl⟩
            have hN : OwY u9 lz hz Y a10 c10 := by rw [hlo, hhi]; exact ⟨ho9, Nat.le_refl _⟩
            try (have D9Z : b9 < lz ∨ hz ≤ b9 := .inl (by have := B9.out.lt; omega))
            try (have D10Z : b10 < lz ∨ hz ≤ b10 := .inl (by have := B10.out.lt; omega))
            try (have HY := Lib.hid (HY.out.mv hb))
            try (have HZ := Lib.hid (HZ.out.mv hb))
            try (have B9 := Lib.hid (B9.out.call hb))
            try (have B10 := Lib.hid (B10.out.call hb))
            have HZ := Lib.hid hN
            clear hl h hN hlo hhi ho9 hA10
            obtain ⟨u, hu9⟩ : ∃ z, z = u9 := ⟨_, rfl⟩
            subst hu9
            refine hK.out _ _ (hHeld.trans (hb.mono hHeld.size)) (fun hHeld => ?_)
            clear hb
            clear hK K
            refine rd1 12 (fun K hK => ?_)
            have k0 := B9.out.at_ 0 rfl
            have k1 := B9.out.at_ 1 rfl
            have k2 := B9.out.soft 0
            have k3 := B9.out.soft 1
            go_simp
            have hq : Blk ((u.setCell ⟨b9, 0, none⟩ (.slice a9 Y.length c9)).setCell ⟨b9, 1, none⟩ (.int .i64 cy)) b9 29 #[.slice a9 Y.length c9, .int .i64 cy] := ((B9.out.set 0 _).set 1 _).as rfl
            have hq2 := (B10.out.far (b := b9) (o := 0) (fun e => D910 e.symm) (.slice a9 Y.length c9)).far (b := b9) (o := 1) (fun e => D910 e.symm) (.int .i64 cy)
            have hqY : OwY ((u.setCell ⟨b9, 0, none⟩ (.slice a9 Y.length c9)).setCell ⟨b9, 1, none⟩ (.int .i64 cy)) ly hy Y a9 c9 := (HY.out.far D9Y 0 _).far D9Y 1 _
            have hqZ : OwY ((u.setCell ⟨b9, 0, none⟩ (.slice a9 Y.length c9)).setCell ⟨b9, 1, none⟩ (.int .i64 cy)) lz hz Y a10 c10 := (HZ.out.far D9Z 0 _).far D9Z 1 _
            have hh : Below w2.heap.size w2 ((u.setCell ⟨b9, 0, none⟩ (.slice a9 Y.length c9)).setCell ⟨b9, 1, none⟩ (.int .i64 cy)) := (hHeld.setCell (p := ⟨b9, 0, none⟩) N9 _).setCell (p := ⟨b9, 1, none⟩) N9 _
            obtain ⟨u8, hu8⟩ : ∃ z, z = ((u.setCell ⟨b9, 0, none⟩ (.slice a9 Y.length c9)).setCell ⟨b9, 1, none⟩ (.int .i64 cy)) := ⟨_, rfl⟩
            rw [← hu8] at hq hq2 hqY hqZ hh ⊢
            have B9 := Lib.hid hq
            have B10 := Lib.hid hq2
            have HY := Lib.hid hqY
            have HZ := Lib.hid hqZ
            clear hq hq2 hqY hqZ hu8 k0 k1 k2 k3
            rename World => u
            refine hK.out _ _ hh (fun hHeld => ?_)
            clear hh
            clear hK K
            refine rd1 13 (fun K hK => ?_)
            have k0 := B10.out.at_ 0 rfl
            have k1 := B10.out.at_ 1 rfl
            have k2 := B10.out.soft 0
            have k3 := B10.out.soft 1
            go_simp
            have hq : Blk ((u.setCell ⟨b10, 0, none⟩ (.slice a10 Y.length c10)).setCell ⟨b10, 1, none⟩ (.int .i64 cy)) b10 29 #[.slice a10 Y.length c10, .int .i64 cy] := ((B10.out.set 0 _).set 1 _).as rfl
            have hq2 := (B9.out.far (b := b10) (o := 0) D910 (.slice a10 Y.length c10)).far (b := b10) (o := 1) D910 (.int .i64 cy)
            have hqY : OwY ((u.setCell ⟨b10, 0, none⟩ (.slice a10 Y.length c10)).setCell ⟨b10, 1, none⟩ (.int .i64 cy)) ly hy Y a9 c9 := (HY.out.far D10Y 0 _).far D10Y 1 _
            have hqZ : OwY ((u.setCell ⟨b10, 0, none⟩ (.slice a10 Y.length c10)).setCell ⟨b10, 1, none⟩ (.int .i64 cy)) lz hz Y a10 c10 := (HZ.out.far D10Z 0 _).far D10Z 1 _
            have hh : Below w2.heap.size w2 ((u.setCell ⟨b10, 0, none⟩ (.slice a10 Y.length c10)).setCell ⟨b10, 1, none⟩ (.int .i64 cy)) := (hHeld.setCell (p := ⟨b10, 0, none⟩) N10 _).setCell (p := ⟨b10, 1, none⟩) N10 _
            obtain ⟨u8, hu8⟩ : ∃ z, z = ((u.setCell ⟨b10, 0, none⟩ (.slice a10 Y.length c10)).setCell ⟨b10, 1, none⟩ (.int .i64 cy)) := ⟨_, rfl⟩
            rw [← hu8] at hq hq2 hqY hqZ hh ⊢
            have B10 := Lib.hid hq
            have B9 := Lib.hid hq2
            have HY := Lib.hid hqY
            have HZ := Lib.hid hqZ
            clear hq hq2 hqY hqZ hu8 k0 k1 k2 k3
            rename World => u
            refine hK.out _ _ hh (fun hHeld => ?_)
            clear hh
            clear hK K
            refine rd0 ?_
            go_wp2
            go_meet
            exact ⟨b9, b10, a9, c9, a10, c10, rfl, rfl, B9, B10, Lib.hid HY.out.rd, Lib.hid HZ.out.rd, Lib.hid hHeld⟩
      case rest =>
        obtain ⟨b9, b10, a9, c9, a10, c10, rfl, rfl, Bb9, Bb10, HY, HZ, HW⟩ := hcut
        rename World => w4
        have hb := HW.out
        clear HW
        have HC := Lib.hid (HC.out.below hb)
        have HM := Lib.hid (HM.out.below hb)
        have HL := Lib.hid (mv_rd R_Node_ok HL.out hb)
        have Bb7 := Lib.hid (Bb7.out.call hb)
        have HB := Lib.hid (HB.out.trans (hb.mono HB.out.size))
        clear hb
        go_wp2_with fail
        refine (draw_nodeset bm lm cm _ hlm HM.out).mono ?_
        intro e w5 h
        obtain ⟨aM, cM, M, k, st, rfl, hrd, hsm, hb⟩ := drawnNS_elim h
        have HC := Lib.hid (HC.out.below hb)
        have HM := Lib.hid (HM.out.below hb)
        have HL := Lib.hid (mv_rd R_Node_ok HL.out hb)
        have Bb7 := Lib.hid (Bb7.out.call hb)
        have HY := Lib.hid (mv_rd R_Node_ok HY.out hb)
        have HZ := Lib.hid (mv_rd R_Node_ok HZ.out hb)
        have Bb9 := Lib.hid (Bb9.out.call hb)
        have Bb10 := Lib.hid (Bb10.out.call hb)
        have HB := Lib.hid (HB.out.trans (hb.mono HB.out.size))
        clear hb
        have HN := Lib.hid hrd
        have hM7 : M.length ≤ 7 := hsm.1
        clear h hrd hsm
        obtain ⟨⟨X, cx⟩, hd⟩ : ∃ d, chgV M k (isB st 1 3) (setN st) = d := ⟨_, rfl⟩
        have HE := Lib.hid hd
        clear hd
        go_wp2_with fail
        refine (set_impl HN.out).mono ?_
        intro e w6 h
        rw [HE.out] at h
        obtain ⟨us, rfl, hu, hb⟩ := newV_elim h
        obtain ⟨a14, c14, T14, rfl, hT14, ho14⟩ := ow_NodesOut hu
        have HC := Lib.hid (HC.out.below hb)
        have HM := Lib.hid (HM.out.below hb)
        have HL := Lib.hid (mv_rd R_Node_ok HL.out hb)
        have Bb7 := Lib.hid (Bb7.out.call hb)
        have HY := Lib.hid (mv_rd R_Node_ok HY.out hb)
        have HZ := Lib.hid (mv_rd R_Node_ok HZ.out hb)
        have Bb9 := Lib.hid (Bb9.out.call hb)
        have Bb10 := Lib.hid (Bb10.out.call hb)
        have HN := Lib.hid (mv_rd R_Node_ok HN.out hb)
        have HB := Lib.hid (HB.out.trans (hb.mono HB.out.size))
        clear hb
        have HX := Lib.hid (ho14.rd R_Node_ok fun k hk => (hT14 k hk).2)
        clear h hu hT14 ho14
        go_wp2_with fail
        refine (set_specA HN.out).mono ?_
        intro e w7 h
        rw [HE.out] at h
        obtain ⟨v15, rfl, hA, hb⟩ := chgA_elim h
        obtain ⟨a15, c15, rfl, ho15⟩ := hA.own
        have HC := Lib.hid (HC.out.below hb)
        have HM := Lib.hid (HM.out.below hb)
        have HL := Lib.hid (mv_rd R_Node_ok HL.out hb)
        have Bb7 := Lib.hid (Bb7.out.call hb)
        have HY := Lib.hid (mv_rd R_Node_ok HY.out hb)
        have HZ := Lib.hid (mv_rd R_Node_ok HZ.out hb)
        have Bb9 := Lib.hid (Bb9.out.call hb)
        have Bb10 := Lib.hid (Bb10.out.call hb)
        have HN := Lib.hid (mv_rd R_Node_ok HN.out hb)
        have HX := Lib.hid (mv_rd R_Node_ok HX.out hb)
        have HB := Lib.hid (HB.out.trans (hb.mono HB.out.size))
        clear hb
        have HV := Lib.hid (ho15.rd R_Node_ok fun k hk => hk.2)
        clear h hA ho15
        obtain ⟨w8, hV8⟩ : ∃ z9, z9 = w7.alloc (.cells #[.slice a14 X.length c14, .int .i64 cx] 29) := ⟨_, rfl⟩
        obtain ⟨w9, hV9⟩ : ∃ z9, z9 = w8.alloc (.cells #[.slice a15 X.length c15, .int .i64 cx] 29) := ⟨_, rfl⟩
        obtain ⟨b14, hn14⟩ : ∃ b, b = w7.heap.size := ⟨_, rfl⟩
        obtain ⟨b15, hn15⟩ : ∃ b, b = w7.heap.size + 1 := ⟨_, rfl⟩
        have hb : Below w7.heap.size w7 w8 := by rw [hV8]; exact (Below.refl _ _).alloc (Nat.le_refl _) _
        have hq : Blk w8 b14 29 #[.slice a14 X.length c14, .int .i64 cx] := by rw [hV8, hn14]; exact Blk.new _ _ _
        have hz8 : w8.heap.size = w7.heap.size + 1 := by rw [hV8]; simp
        have HC := Lib.hid (HC.out.below hb)
        have HM := Lib.hid (HM.out.below hb)
        have HL := Lib.hid (mv_rd R_Node_ok HL.out hb)
        have Bb7 := Lib.hid (Bb7.out.call hb)
        have HY := Lib.hid (mv_rd R_Node_ok HY.out hb)
        have HZ := Lib.hid (mv_rd R_Node_ok HZ.out hb)
        have Bb9 := Lib.hid (Bb9.out.call hb)
        have Bb10 := Lib.hid (Bb10.out.call hb)
        have HN := Lib.hid (mv_rd R_Node_ok HN.out hb)
        have HX := Lib.hid (mv_rd R_Node_ok HX.out hb)
        have HV := Lib.hid (mv_rd R_Node_ok HV.out hb)
        have HB := Lib.hid (HB.out.trans (hb.mono HB.out.size))
        clear hb
        have Bb14 := Lib.hid hq
        clear hq
        have hb : Below w8.heap.size w8 w9 := by rw [hV9]; exact (Below.refl _ _).alloc (Nat.le_refl _) _
        have hq : Blk w9 b15 29 #[.slice a15 X.length c15, .int .i64 cx] := by rw [hV9, hn15, ← hz8]; exact Blk.new _ _ _
        have HC := Lib.hid (HC.out.below hb)
        have HM := Lib.hid (HM.out.below hb)
        have HL := Lib.hid (mv_rd R_Node_ok HL.out hb)
        have Bb7 := Lib.hid (Bb7.out.call hb)
        have HY := Lib.hid (mv_rd R_Node_ok HY.out hb)
        have HZ := Lib.hid (mv_rd R_Node_ok HZ.out hb)
        have Bb9 := Lib.hid (Bb9.out.call hb)
        have Bb10 := Lib.hid (Bb10.out.call hb)
        have HN := Lib.hid (mv_rd R_Node_ok HN.out hb)
        have HX := Lib.hid (mv_rd R_Node_ok HX.out hb)
        have HV := Lib.hid (mv_rd R_Node_ok HV.out hb)
        have Bb14 := Lib.hid (Bb14.out.call hb)
        have HB := Lib.hid (HB.out.trans (hb.mono HB.out.size))
        clear hb
        have Bb15 := Lib.hid hq
        clear hq hz8
        go_upto_region 7 with fail
        rw [← hV8, ← hV9, ← hn15, ← hn14]
        clear hV8 hV9 hn14 hn15
        have HYS := Lib.hid (show ∀ x ∈ Y, x.2.length ≤ 1048576 from fun x hx => by have := (chg_bound put_five HD.out).2 x hx; omega)
        have HXS := Lib.hid (show ∀ x ∈ X, x.2.length ≤ 1048576 from fun x hx => by have := (chg_bound set_five HE.out).2 x hx; omega)
        have hcy : (cy != cy) = false := bne_self_eq_false cy
        have hcx : (cx != cx) = false := bne_self_eq_false cx
        have hnb : (nodesB L != nodesB L) = false := bne_self_eq_false _
        have qb90 := Bb9.out.at_ 0 rfl
        have qb91 := Bb9.out.at_ 1 rfl
        have qb100 := Bb10.out.at_ 0 rfl
        have qb101 := Bb10.out.at_ 1 rfl
        go_wp2_with fail
        refine (lwnodes HYS.out HY.out HZ.out).mono ?_
        intro e w10 h
        obtain ⟨rfl, hb⟩ := isB_elim h
        have HC := Lib.hid (HC.out.below hb)
        have HM := Lib.hid (HM.out.below hb)
        have HL := Lib.hid (mv_rd R_Node_ok HL.out hb)
        have Bb7 := Lib.hid (Bb7.out.call hb)
        have HY := Lib.hid (mv_rd R_Node_ok HY.out hb)
        have HZ := Lib.hid (mv_rd R_Node_ok HZ.out hb)
        have Bb9 := Lib.hid (Bb9.out.call hb)
        have Bb10 := Lib.hid (Bb10.out.call hb)
        have HN := Lib.hid (mv_rd R_Node_ok HN.out hb)
        have HX := Lib.hid (mv_rd R_Node_ok HX.out hb)
        have HV := Lib.hid (mv_rd R_Node_ok HV.out hb)
        have Bb14 := Lib.hid (Bb14.out.call hb)
        have Bb15 := Lib.hid (Bb15.out.call hb)
        have HB := Lib.hid (HB.out.trans (hb.mono HB.out.size))
        clear hb
        clear h
        have qb140 := Bb14.out.at_ 0 rfl
        have qb141 := Bb14.out.at_ 1 rfl
        have qb150 := Bb15.out.at_ 0 rfl
        have qb151 := Bb15.out.at_ 1 rfl
        go_wp2_with fail
        refine (lwnodes HXS.out HX.out HV.out).mono ?_
        intro e w11 h
        obtain ⟨rfl, hb⟩ := isB_elim h
        have HC := Lib.hid (HC.out.below hb)
        have HM := Lib.hid (HM.out.below hb)
        have HL := Lib.hid (mv_rd R_Node_ok HL.out hb)
        have Bb7 := Lib.hid (Bb7.out.call hb)
        have HY := Lib.hid (mv_rd R_Node_ok HY.out hb)
        have HZ := Lib.hid (mv_rd R_Node_ok HZ.out hb)
        have Bb9 := Lib.hid (Bb9.out.call hb)
        have Bb10 := Lib.hid (Bb10.out.call hb)
        have HN := Lib.hid (mv_rd R_Node_ok HN.out hb)
        have HX := Lib.hid (mv_rd R_Node_ok HX.out hb)
        have HV := Lib.hid (mv_rd R_Node_ok HV.out hb)
        have Bb14 := Lib.hid (Bb14.out.call hb)
        have Bb15 := Lib.hid (Bb15.out.call hb)
        have HB := Lib.hid (HB.out.trans (hb.mono HB.out.size))
        clear hb
        clear h
        go_wp2_with fail
        refine (nodes_impl HL.out).mono ?_
        intro e w12 h
        obtain ⟨rfl, hb⟩ := isB_elim h
        have HC := Lib.hid (HC.out.below hb)
        have HM := Lib.hid (HM.out.below hb)
        have HL := Lib.hid (mv_rd R_Node_ok HL.out hb)
        have Bb7 := Lib.hid (Bb7.out.call hb)
        have HY := Lib.hid (mv_rd R_Node_ok HY.out hb)
        have HZ := Lib.hid (mv_rd R_Node_ok HZ.out hb)
        have Bb9 := Lib.hid (Bb9.out.call hb)
        have Bb10 := Lib.hid (Bb10.out.call hb)
        have HN := Lib.hid (mv_rd R_Node_ok HN.out hb)
        have HX := Lib.hid (mv_rd R_Node_ok HX.out hb)
        have HV := Lib.hid (mv_rd R_Node_ok HV.out hb)
        have Bb14 := Lib.hid (Bb14.out.call hb)
        have Bb15 := Lib.hid (Bb15.out.call hb)
        have HB := Lib.hid (HB.out.trans (hb.mono HB.out.size))
        clear hb
        clear h
        go_wp2_with fail
        refine (nodes_spec HL.out).mono ?_
        intro e w13 h
        obtain ⟨rfl, hb⟩ := isB_elim h
        have HC := Lib.hid (HC.out.below hb)
        have HM := Lib.hid (HM.out.below hb)
        have HL := Lib.hid (mv_rd R_Node_ok HL.out hb)
        have Bb7 := Lib.hid (Bb7.out.call hb)
        have HY := Lib.hid (mv_rd R_Node_ok HY.out hb)
        have HZ := Lib.hid (mv_rd R_Node_ok HZ.out hb)
        have Bb9 := Lib.hid (Bb9.out.call hb)
        have Bb10 := Lib.hid (Bb10.out.call hb)
        have HN := Lib.hid (mv_rd R_Node_ok HN.out hb)
        have HX := Lib.hid (mv_rd R_Node_ok HX.out hb)
        have HV := Lib.hid (mv_rd R_Node_ok HV.out hb)
        have Bb14 := Lib.hid (Bb14.out.call hb)
        have Bb15 := Lib.hid (Bb15.out.call hb)
        have HB := Lib.hid (HB.out.trans (hb.mono HB.out.size))
        clear hb
        clear h
        clear hcy hcx hnb qb90 qb91 qb100 qb101 qb140 qb141 qb150 qb151 HZ HV Bb10 Bb15 HC HM HXS
        have qb90 := Bb9.out.at_ 0 rfl
        have qb91 := Bb9.out.at_ 1 rfl
        by_cases hy0 : cy = 0
        · subst hy0
          obtain ⟨k1, s1, Q1, rfl, hk1, hlY, hRY, hx1, hcut1, hnf, hfr⟩ := put_facts HD.out
          have hk10 : (0 : Int) ≤ (k1 : Int) := Int.natCast_nonneg _
          have hk11 : (k1 : Int) < (L.length : Int) := by omega
          have hr := rowsV_at hRY 2
          have hl : (rowsV 2 Y).length = L.length := hr.1.trans hlY
          have hy := hr.2 k1 _ hx1
          have hp := passV_at hRY x1
          have hlp : (passV Y x1).length = L.length := hp.1.trans hlY
          have hyp := hp.2 k1 _ hx1
          have hq4 : Q1.length ≤ 4 := (nodesR_at hRY hx1).2.1
          clear hr hp hlY
          have hp1 : (rowOf 2 (s1, Q1)).length ≤ 1048576 := by unfold rowOf; split <;> simp <;> omega
          have hp2 : (passN x1 (s1, Q1)).2.length ≤ 1048576 := by have h9 := List.length_filter_le (fun s : D_Span => decide (x1 < s.2)) Q1; show (Q1.filter _).length ≤ 1048576; omega
          obtain ⟨P1, hP1⟩ : ∃ P, rowOf 2 (s1, Q1) = P := ⟨_, rfl⟩
          rw [hP1] at hy hnf hp1
          obtain ⟨⟨s2, P2⟩, hP2⟩ : ∃ P, passN x1 (s1, Q1) = P := ⟨_, rfl⟩
          rw [hP2] at hyp hfr hp2
          clear hP1 hP2
          have HNF := Lib.hid hnf
          have HFR := Lib.hid hfr
          clear hnf hfr
          go_wp2_with fail
          refine (rowsnew_impl HY.out).mono ?_
          intro e w14 h
          obtain ⟨a16, c16, rfl, ho, hb⟩ := newS_elim h
          rw [hl]
          have HL := Lib.hid (mv_rd R_Node_ok HL.out hb)
          have Bb7 := Lib.hid (Bb7.out.call hb)
          have HY := Lib.hid (mv_rd R_Node_ok HY.out hb)
          have Bb9 := Lib.hid (Bb9.out.call hb)
          have HN := Lib.hid (mv_rd R_Node_ok HN.out hb)
          have HX := Lib.hid (mv_rd R_Node_ok HX.out hb)
          have Bb14 := Lib.hid (Bb14.out.call hb)
          have HB := Lib.hid (HB.out.trans (hb.mono HB.out.size))
          clear hb
          have HR := Lib.hid (ho.rd (Sl_ok R_Span_ok) fun k hk => hk.2)
          clear h ho qb90 qb91
          have qb90 := Bb9.out.at_ 0 rfl
          have qb70 := Bb7.out.at_ 0 rfl
          have qb71 := Bb7.out.at_ 1 rfl
          go_wp2_with fail
          refine (cut_impl HY.out).mono ?_
          intro e w15 h
          rw [hcut1] at h
          obtain ⟨us, rfl, hu, hb⟩ := newV_elim h
          obtain ⟨a17, c17, T17, rfl, hT17, ho17⟩ := ow_NodesOut hu
          have HL := Lib.hid (mv_rd R_Node_ok HL.out hb)
          have Bb7 := Lib.hid (Bb7.out.call hb)
          have HY := Lib.hid (mv_rd R_Node_ok HY.out hb)
          have Bb9 := Lib.hid (Bb9.out.call hb)
          have HN := Lib.hid (mv_rd R_Node_ok HN.out hb)
          have HX := Lib.hid (mv_rd R_Node_ok HX.out hb)
          have Bb14 := Lib.hid (Bb14.out.call hb)
          have HR := Lib.hid (mv_rd (Sl_ok R_Span_ok) HR.out hb)
          have HB := Lib.hid (HB.out.trans (hb.mono HB.out.size))
          clear hb
          have HU := Lib.hid (ho17.rd R_Node_ok fun k hk => (hT17 k hk).2)
          clear h hu hT17 ho17 qb90 qb70 qb71
          obtain ⟨w16, hV⟩ : ∃ z9, z9 = w15.alloc (.cells #[.slice a17 L.length c17, .int .i64 0] 29) := ⟨_, rfl⟩
          have hb : Below w15.heap.size w15 w16 := by rw [hV]; exact (Below.refl _ _).alloc (Nat.le_refl _) _
          obtain ⟨b17, hn⟩ : ∃ b, b = w15.heap.size := ⟨_, rfl⟩
          have hq : Blk w16 b17 29 #[.slice a17 L.length c17, .int .i64 0] := by rw [hV, hn]; exact Blk.new _ _ _
          have HL := Lib.hid (mv_rd R_Node_ok HL.out hb)
          have Bb7 := Lib.hid (Bb7.out.call hb)
          have HY := Lib.hid (mv_rd R_Node_ok HY.out hb)
          have Bb9 := Lib.hid (Bb9.out.call hb)
          have HN := Lib.hid (mv_rd R_Node_ok HN.out hb)
          have HX := Lib.hid (mv_rd R_Node_ok HX.out hb)
          have Bb14 := Lib.hid (Bb14.out.call hb)
          have HR := Lib.hid (mv_rd (Sl_ok R_Span_ok) HR.out hb)
          have HU := Lib.hid (mv_rd R_Node_ok HU.out hb)
          have HB := Lib.hid (HB.out.trans (hb.mono HB.out.size))
          clear hb
          have Bb17 := Lib.hid hq
          clear hq
          obtain ⟨g5, o5, us, rfl, hg5, hu, hr⟩ := HR.out.at_ hy
          obtain ⟨aq5, cq5, rfl, hq⟩ := hr
          have e5 : w16.cell? ⟨g5, o5 + k1, none⟩ = some (.slice aq5 P1.length cq5) := by simpa [show (Sl R_Span).size = 1 from rfl] using hu 0 _ rfl
          have HQ5 := Lib.hid hq
          clear hu hq
          have hll : ((L.length : Int) != (L.length : Int)) = false := bne_self_eq_false _
          go_upto_region 12 with fail
          rw [← hV]
          try rw [← hn]
          clear hV hn
          refine wp_region_held_drew (S := (fun V => Below (w16).heap.size (w16) V)) (by kernel_rfl) ((Below.refl _ _).drew) (fun hHeld => ?_)
          refine tk 0 hHeld ?_
          refine tk 1 hHeld ?_
          refine tk 2 hHeld ?_
          refine tk 3 hHeld ?_
          refine tk 4 hHeld ?_
          refine tk 5 hHeld ?_
          refine tk 6 hHeld ?_
          refine tk 7 hHeld ?_
          refine tk 8 hHeld ?_
          refine tk 9 hHeld ?_ (hy := fun w hSw => by (try dsimp only at hSw); have k0 := (hSw.cell (p := ⟨g5, o5 + k1, none⟩) hg5).trans e5; clear hSw; go_simp; try with_reducible rfl)
          refine tk 10 hHeld ?_ (hy := fun w hSw => by (try dsimp only at hSw); have k0 := (hSw.cell (p := ⟨b7, 0, none⟩) Bb7.out.lt).trans (Bb7.out.at_ 0 rfl); have k1 := (hSw.cell (p := ⟨b7, 1, none⟩) Bb7.out.lt).trans (Bb7.out.at_ 1 rfl); clear hSw; go_simp; try with_reducible rfl)
          refine rd1 11 (fun K hK => ?_)
          go_simp
          go_at_call 23
          refine (isfree_impl aq5 _ cq5 (gt P1) x0 x1 _ hp1 (pa_of (mv_rd R_Span_ok HQ5.out hHeld) (Nat.le_refl _))).mono ?_
          intro e z1 h
          obtain ⟨qf, rfl, hc, hb⟩ := resB_elim h
          obtain rfl : qf = false := by cases qf with | false => rfl | true => exact absurd (hc.1 rfl) HNF.out
          clear h hc
          refine hK.out _ _ (hHeld.trans (hb.mono hHeld.size)) (fun hHeld => ?_)
          clear hK K hb
          refine tk 12 hHeld ?_
          refine tk 13 hHeld ?_
          refine tk 14 hHeld ?_
          refine tk 15 hHeld ?_ (hy := fun w hSw => by (try dsimp only at hSw); have k0 := (hSw.cell (p := ⟨b17, 1, none⟩) Bb17.out.lt).trans (Bb17.out.at_ 1 rfl); clear hSw; go_simp; try with_reducible rfl)
          refine tk 16 hHeld ?_
          refine tk 17 hHeld ?_
          refine tk 18 hHeld ?_
          refine tk 19 hHeld ?_
          refine tk 20 hHeld ?_ (hy := fun w hSw => by (try dsimp only at hSw); have k0 := (hSw.cell (p := ⟨b17, 0, none⟩) Bb17.out.lt).trans (Bb17.out.at_ 0 rfl); clear hSw; go_simp; try with_reducible rfl)
          refine tk 21 hHeld ?_
          refine rd1 22 (fun K hK => ?_)
          go_simp
          go_at_call 18
          refine (lwnodes HLS.out (mv_rd R_Node_ok HU.out hHeld) (mv_rd R_Node_ok HL.out hHeld)).mono ?_
          intro e z2 h
          obtain ⟨rfl, hb⟩ := isB_elim h
          clear h
          refine hK.out _ _ (hHeld.trans (hb.mono hHeld.size)) (fun hHeld => ?_)
          clear hK K hb
          refine tk 23 hHeld ?_
          refine tk 24 hHeld ?_
          refine rd0 ?_
          have HF := Lib.hid hHeld
          clear hHeld
          have hb := HF.out
          clear HF HQ5 e5 hg5
          clear HR HU Bb17
          have HL := Lib.hid (mv_rd R_Node_ok HL.out hb)
          have Bb7 := Lib.hid (Bb7.out.call hb)
          have HY := Lib.hid (mv_rd R_Node_ok HY.out hb)
          have Bb9 := Lib.hid (Bb9.out.call hb)
          have HN := Lib.hid (mv_rd R_Node_ok HN.out hb)
          have HX := Lib.hid (mv_rd R_Node_ok HX.out hb)
          have Bb14 := Lib.hid (Bb14.out.call hb)
          have HB := Lib.hid (HB.out.trans (hb.mono HB.out.size))
          clear hb
          have qb90 := Bb9.out.at_ 0 rfl
          have qb70 := Bb7.out.at_ 0 rfl
          have qb71 := Bb7.out.at_ 1 rfl
          go_wp2_with fail
          refine (pass_impl HY.out).mono ?_
          intro e w17 h
          obtain ⟨a18, c18, rfl, ho, hb⟩ := newS_elim h
          rw [hlp]
          have HL := Lib.hid (mv_rd R_Node_ok HL.out hb)
          have Bb7 := Lib.hid (Bb7.out.call hb)
          have HY := Lib.hid (mv_rd R_Node_ok HY.out hb)
          have Bb9 := Lib.hid (Bb9.out.call hb)
          have HN := Lib.hid (mv_rd R_Node_ok HN.out hb)
          have HX := Lib.hid (mv_rd R_Node_ok HX.out hb)
          have Bb14 := Lib.hid (Bb14.out.call hb)
          have HB := Lib.hid (HB.out.trans (hb.mono HB.out.size))
          clear hb
          have HR := Lib.hid (ho.rd R_Node_ok fun k hk => hk.2)
          clear h ho qb90 qb70 qb71
          obtain ⟨g6, o6, us, rfl, hg6, hu, hr⟩ := HR.out.at_ hyp
          obtain ⟨aq6, cq6, rfl, hq⟩ := rd_Node hr
          have e6 : w17.cell? ⟨g6, o6 + k1 * 2 + 1, none⟩ = some (.slice aq6 P2.length cq6) := by simpa [size_NodeS, Nat.add_assoc] using hu 1 _ rfl
          have HQ6 := Lib.hid hq
          clear hu hr hq
          go_upto_region 15 with fail
          refine wp_region_held_drew (S := (fun V => Below (w17).heap.size (w17) V)) (by kernel_rfl) ((Below.refl _ _).drew) (fun hHeld => ?_)
          refine tk 0 hHeld ?_
          refine tk 1 hHeld ?_
          refine tk 2 hHeld ?_
          refine tk 3 hHeld ?_
          refine tk 4 hHeld ?_
          refine tk 5 hHeld ?_
          refine tk 6 hHeld ?_
          refine tk 7 hHeld ?_
          refine tk 8 hHeld ?_
          refine tk 9 hHeld ?_
          refine tk 10 hHeld ?_ (hy := fun w hSw => by (try dsimp only at hSw); have k0 := (hSw.cell (p := ⟨g6, o6 + k1 * 2 + 1, none⟩) hg6).trans e6; clear hSw; go_simp; try with_reducible rfl)
          refine tk 11 hHeld ?_ (hy := fun w hSw => by (try dsimp only at hSw); have k0 := (hSw.cell (p := ⟨b7, 0, none⟩) Bb7.out.lt).trans (Bb7.out.at_ 0 rfl); have k1 := (hSw.cell (p := ⟨b7, 1, none⟩) Bb7.out.lt).trans (Bb7.out.at_ 1 rfl); clear hSw; go_simp; try with_reducible rfl)
          refine rd1 12 (fun K hK => ?_)
          go_simp
          go_at_call 23
          refine (isfree_impl aq6 _ cq6 (gt P2) x0 x1 _ hp2 (pa_of (mv_rd R_Span_ok HQ6.out hHeld) (Nat.le_refl _))).mono ?_
          intro e w18 h
          obtain ⟨qf, rfl, hc, hb⟩ := resB_elim h
          obtain rfl : qf = true := by cases qf with | true => rfl | false => exact absurd (hc.2 HFR.out) (by decide)
          clear h hc
          refine hK.out _ _ (hHeld.trans (hb.mono hHeld.size)) (fun hHeld => ?_)
          clear hK K hb
          refine tk 13 hHeld ?_
          refine tk 14 hHeld ?_
          refine rd0 ?_
          have HF := Lib.hid hHeld
          clear hHeld
          have hb := HF.out
          clear HF HQ6 e6 hg6 HR HNF HFR hl hlp hy hyp hcut1 hp1 hp2 hll HY HL Bb9 Bb7
          have HN := Lib.hid (mv_rd R_Node_ok HN.out hb)
          have HX := Lib.hid (mv_rd R_Node_ok HX.out hb)
          have Bb14 := Lib.hid (Bb14.out.call hb)
          have HB := Lib.hid (HB.out.trans (hb.mono HB.out.size))
          clear hb
          have qb140 := Bb14.out.at_ 0 rfl
          have qb141 := Bb14.out.at_ 1 rfl
          by_cases hx0 : cx = 0
          · subst hx0
            obtain ⟨k2, Q2, rfl, hk2, hlX, hRX, hx2, hst, hq2⟩ := set_facts HE.out
            have hk20 : (0 : Int) ≤ (k2 : Int) := Int.natCast_nonneg _
            have hk21 : (k2 : Int) < (M.length : Int) := by omega
            have hk22 : (k2 : Int) < (X.length : Int) := by omega
            have hr2 := rowsV_at hRX 2
            have hr3 := rowsV_at hRX 3
            have hl2 : (rowsV 2 X).length = M.length := hr2.1.trans hlX
            have hl3 : (rowsV 3 X).length = M.length := hr3.1.trans hlX
            have hy2 := hr2.2 k2 _ hx2
            have hy3 := hr3.2 k2 _ hx2
            clear hr2 hr3 hlX
            go_upto_region 19 with fail
            refine wp_region_held_drew (S := (fun V => Below (w18).heap.size (w18) V)) (by kernel_rfl) ((Below.refl _ _).drew) (fun hHeld => ?_)
            refine tk 0 hHeld ?_
            refine tk 1 hHeld ?_ (hy := fun w hSw => by (try dsimp only at hSw); have k0 := (hSw.cell (p := ⟨b14, 0, none⟩) Bb14.out.lt).trans (Bb14.out.at_ 0 rfl); clear hSw; go_simp; try with_reducible rfl)
            refine tk 3 hHeld ?_
            refine tk 4 hHeld ?_ (hy := fun w hSw => by (try dsimp only at hSw); have k0 := (hSw.cell (p := ⟨b14, 0, none⟩) Bb14.out.lt).trans (Bb14.out.at_ 0 rfl); clear hSw; go_simp; try with_reducible rfl)
            refine rd1 2 (fun K hK => ?_)
            go_simp
            go_at_call 21
            refine (rowsnew_impl (mv_rd R_Node_ok HX.out hHeld)).mono ?_
            intro e x1 h
            obtain ⟨a19, c19, rfl, ho, hb⟩ := newS_elim h
            rw [hl2]
            have HR2 := Lib.hid (ho.rd (Sl_ok R_Span_ok) fun k hk => hk.2)
            clear h ho
            refine hK.out _ _ (hHeld.trans (hb.mono hHeld.size)) (fun hHeld => ?_)
            clear hK K hb
            refine rd1 5 (fun K hK => ?_)
            go_simp
            go_at_call 25
            refine (rowshard_impl (mv_rd R_Node_ok HX.out hHeld)).mono ?_
            intro e x2 h
            obtain ⟨a20, c20, rfl, ho, hb⟩ := newS_elim h
            rw [hl3]
            have HR2 := Lib.hid (mv_rd (Sl_ok R_Span_ok) HR2.out hb)
            have HR3 := Lib.hid (ho.rd (Sl_ok R_Span_ok) fun k hk => hk.2)
            clear h ho
            refine hK.out _ _ (hHeld.trans (hb.mono hHeld.size)) (fun hHeld => ?_)
            clear hK K hb
            refine tk 6 hHeld ?_
            refine tk 7 hHeld ?_
            refine rd0 ?_
            have HF := Lib.hid hHeld
            clear hHeld
            have hb := HF.out
            clear HF qb140 qb141
            have HX := Lib.hid (mv_rd R_Node_ok HX.out hb)
            have Bb14 := Lib.hid (Bb14.out.call hb)
            have HB := Lib.hid (HB.out.trans (hb.mono HB.out.size))
            clear hb
            obtain ⟨x3, hV⟩ : ∃ z9, z9 = x2.alloc (.cells #[.int .i64 0, .int .i64 1000000] 25) := ⟨_, rfl⟩
            have hb : Below x2.heap.size x2 x3 := by rw [hV]; exact (Below.refl _ _).alloc (Nat.le_refl _) _
            obtain ⟨b21, hn⟩ : ∃ b, b = x2.heap.size := ⟨_, rfl⟩
            have hq : Blk x3 b21 25 #[.int .i64 0, .int .i64 1000000] := by rw [hV, hn]; exact Blk.new _ _ _
            have HX := Lib.hid (mv_rd R_Node_ok HX.out hb)
            have Bb14 := Lib.hid (Bb14.out.call hb)
            have HR2 := Lib.hid (mv_rd (Sl_ok R_Span_ok) HR2.out hb)
            have HR3 := Lib.hid (mv_rd (Sl_ok R_Span_ok) HR3.out hb)
            have HB := Lib.hid (HB.out.trans (hb.mono HB.out.size))
            clear hb
            have Bb21 := Lib.hid hq
            clear hq
            have HA := Lib.hid (show RdSl R_Span x3 x3.heap.size [((0 : Int), (1000000 : Int))] (some ⟨b21, 0, none⟩) 1 from rd_oneS 0 1000000 Bb21.out)
            obtain ⟨g2, o2, us, rfl, hg2, hu, hr⟩ := HR2.out.at_ hy2
            obtain ⟨aq2, cq2, rfl, hq⟩ := hr
            have e2 : x3.cell? ⟨g2, o2 + k2, none⟩ = some (.slice aq2 (rowOf 2 (st, Q2)).length cq2) := by simpa [show (Sl R_Span).size = 1 from rfl] using hu 0 _ rfl
            have HQ2 := Lib.hid hq
            clear hu hq
            obtain ⟨g3, o3, us, rfl, hg3, hu, hr⟩ := HR3.out.at_ hy3
            obtain ⟨aq3, cq3, rfl, hq⟩ := hr
            have e3 : x3.cell? ⟨g3, o3 + k2, none⟩ = some (.slice aq3 (rowOf 3 (st, Q2)).length cq3) := by simpa [show (Sl R_Span).size = 1 from rfl] using hu 0 _ rfl
            have HQ3 := Lib.hid hq
            clear hu hq
            obtain ⟨g4, o4, us, rfl, hg4, hu, hr⟩ := HX.out.at_ hx2
            obtain ⟨aq4, cq4, rfl, hq⟩ := rd_Node hr
            have e4 : x3.cell? ⟨g4, o4 + k2 * 2 + 1, none⟩ = some (.slice aq4 Q2.length cq4) := by simpa [size_NodeS, Nat.add_assoc] using hu 1 _ rfl
            have HQ4 := Lib.hid hq
            clear hu hr hq
            have hq2' : Q2.length ≤ 1048576 := by omega
            have hal : ([((0 : Int), (1000000 : Int))] : List D_Span).length ≤ 1048576 := by decide
            go_upto_region 23 with fail
            rw [← hV]
            try rw [← hn]
            clear hV hn
            have hs : st = 1 ∨ st = 2 ∨ st = 3 := by omega
            clear hst
            rcases hs with rfl | rfl | rfl
            · rw [show rowOf 2 ((1 : Int), Q2) = Q2 from by simp [rowOf]] at e2 HQ2
              rw [show rowOf 3 ((1 : Int), Q2) = Q2 from by simp [rowOf]] at e3 HQ3
              go_upto_region 25 with fail
              refine wp_region_held_drew (S := (fun V => Below (x3).heap.size (x3) V)) (by kernel_rfl) ((Below.refl _ _).drew) (fun hHeld => ?_)
              refine tk 0 hHeld ?_
              refine tk 1 hHeld ?_
              refine tk 2 hHeld ?_
              refine tk 3 hHeld ?_ (hy := fun w hSw => by (try dsimp only at hSw); have k0 := (hSw.cell (p := ⟨g2, o2 + k2, none⟩) hg2).trans e2; clear hSw; go_simp; try with_reducible rfl)
              refine tk 4 hHeld ?_
              refine tk 5 hHeld ?_ (hy := fun w hSw => by (try dsimp only at hSw); have k0 := (hSw.cell (p := ⟨b14, 0, none⟩) Bb14.out.lt).trans (Bb14.out.at_ 0 rfl); clear hSw; go_simp; try with_reducible rfl)
              refine tk 6 hHeld ?_
              refine tk 7 hHeld ?_
              refine tk 8 hHeld ?_
              refine tk 9 hHeld ?_ (hy := fun w hSw => by (try dsimp only at hSw); have k0 := (hSw.cell (p := ⟨g4, o4 + k2 * 2 + 1, none⟩) hg4).trans e4; clear hSw; go_simp; try with_reducible rfl)
              refine rd1 10 (fun K hK => ?_)
              go_simp
              go_at_call 26
              refine (lwspansL hq2' (mv_rd R_Span_ok HQ2.out hHeld) (mv_rd R_Span_ok HQ4.out hHeld)).mono ?_
              intro e y1 h
              obtain ⟨rfl, hb⟩ := isB_elim h
              clear h
              refine hK.out _ _ (hHeld.trans (hb.mono hHeld.size)) (fun hHeld => ?_)
              clear hK K hb
              refine tk 11 hHeld ?_
              refine tk 12 hHeld ?_
              refine tk 13 hHeld ?_
              refine tk 14 hHeld ?_
              refine tk 15 hHeld ?_ (hy := fun w hSw => by (try dsimp only at hSw); have k0 := (hSw.cell (p := ⟨g3, o3 + k2, none⟩) hg3).trans e3; clear hSw; go_simp; try with_reducible rfl)
              refine tk 16 hHeld ?_
              refine tk 17 hHeld ?_
              refine tk 18 hHeld ?_
              refine tk 19 hHeld ?_ (hy := fun w hSw => by (try dsimp only at hSw); have k0 := (hSw.cell (p := ⟨g2, o2 + k2, none⟩) hg2).trans e2; clear hSw; go_simp; try with_reducible rfl)
              refine rd1 20 (fun K hK => ?_)
              go_simp
              go_at_call 26
              refine (lwspansL hq2' (mv_rd R_Span_ok HQ3.out hHeld) (mv_rd R_Span_ok HQ2.out hHeld)).mono ?_
              intro e y2 h
              obtain ⟨rfl, hb⟩ := isB_elim h
              clear h
              refine hK.out _ _ (hHeld.trans (hb.mono hHeld.size)) (fun hHeld => ?_)
              clear hK K hb
              refine tk 21 hHeld ?_
              refine tk 22 hHeld ?_
              refine rd0 ?_
              have HF := Lib.hid hHeld
              clear hHeld
              go_wp2
              go_ret
              exact ⟨rfl, HB.out.trans (HF.out.mono HB.out.size)⟩
            · rw [show rowOf 2 ((2 : Int), Q2) = [((0 : Int), (1000000 : Int))] from by simp [rowOf]] at e2 HQ2
              rw [show rowOf 3 ((2 : Int), Q2) = Q2 from by simp [rowOf]] at e3 HQ3
              go_upto_region 27 with fail
              refine wp_region_held_drew (S := (fun V => Below (x3).heap.size (x3) V)) (by kernel_rfl) ((Below.refl _ _).drew) (fun hHeld => ?_)
              refine tk 0 hHeld ?_
              refine tk 1 hHeld ?_
              refine tk 2 hHeld ?_
              refine tk 3 hHeld ?_ (hy := fun w hSw => by (try dsimp only at hSw); have k0 := (hSw.cell (p := ⟨g2, o2 + k2, none⟩) hg2).trans e2; clear hSw; go_simp; try with_reducible rfl)
              refine tk 4 hHeld ?_
              refine rd1 5 (fun K hK => ?_)
              go_simp
              go_at_call 26
              refine (lwspansL hal (mv_rd R_Span_ok HQ2.out hHeld) (mv_rd R_Span_ok HA.out hHeld)).mono ?_
              intro e y1 h
              obtain ⟨rfl, hb⟩ := isB_elim h
              clear h
              refine hK.out _ _ (hHeld.trans (hb.mono hHeld.size)) (fun hHeld => ?_)
              clear hK K hb
              refine tk 6 hHeld ?_
              refine tk 7 hHeld ?_
              refine tk 8 hHeld ?_
              refine tk 9 hHeld ?_
              refine tk 10 hHeld ?_ (hy := fun w hSw => by (try dsimp only at hSw); have k0 := (hSw.cell (p := ⟨g3, o3 + k2, none⟩) hg3).trans e3; clear hSw; go_simp; try with_reducible rfl)
              refine tk 11 hHeld ?_
              refine tk 12 hHeld ?_ (hy := fun w hSw => by (try dsimp only at hSw); have k0 := (hSw.cell (p := ⟨b14, 0, none⟩) Bb14.out.lt).trans (Bb14.out.at_ 0 rfl); clear hSw; go_simp; try with_reducible rfl)
              refine tk 13 hHeld ?_
              refine tk 14 hHeld ?_
              refine tk 15 hHeld ?_
              refine tk 16 hHeld ?_ (hy := fun w hSw => by (try dsimp only at hSw); have k0 := (hSw.cell (p := ⟨g4, o4 + k2 * 2 + 1, none⟩) hg4).trans e4; clear hSw; go_simp; try with_reducible rfl)
              refine rd1 17 (fun K hK => ?_)
              go_simp
              go_at_call 26
              refine (lwspansL hq2' (mv_rd R_Span_ok HQ3.out hHeld) (mv_rd R_Span_ok HQ4.out hHeld)).mono ?_
              intro e y2 h
              obtain ⟨rfl, hb⟩ := isB_elim h
              clear h
              refine hK.out _ _ (hHeld.trans (hb.mono hHeld.size)) (fun hHeld => ?_)
              clear hK K hb
              refine tk 18 hHeld ?_
              refine tk 19 hHeld ?_
              refine rd0 ?_
              have HF := Lib.hid hHeld
              clear hHeld
              go_wp2
              go_ret
              exact ⟨rfl, HB.out.trans (HF.out.mono HB.out.size)⟩
            · rw [show rowOf 2 ((3 : Int), Q2) = [((0 : Int), (1000000 : Int))] from by simp [rowOf]] at e2 HQ2
              rw [show rowOf 3 ((3 : Int), Q2) = [((0 : Int), (1000000 : Int))] from by simp [rowOf]] at e3 HQ3
              go_wp2_with fail
              refine (lwspansL hal HQ2.out HA.out).mono ?_
              intro e y1 h
              obtain ⟨rfl, hb⟩ := isB_elim h
              have HQ3 := Lib.hid (mv_rd R_Span_ok HQ3.out hb)
              have HA := Lib.hid (mv_rd R_Span_ok HA.out hb)
              have e3 := (hb.cell (p := ⟨g3, o3 + k2, none⟩) hg3).trans e3
              have HB := Lib.hid (HB.out.trans (hb.mono HB.out.size))
              clear h hb
              go_wp2_with fail
              refine (lwspansL hal HQ3.out HA.out).mono ?_
              intro e y2 h
              obtain ⟨rfl, hb⟩ := isB_elim h
              have HB := Lib.hid (HB.out.trans (hb.mono HB.out.size))
              clear h hb
              go_wp2
              go_ret
              exact ⟨rfl, HB.out⟩
          · have hxb : (cx != 0) = true := bne_iff_ne.2 hx0
            clear hx0
            go_wp2
            go_ret
            exact ⟨rfl, HB.out⟩
        · have hyb : (cy == 0) = false := beq_eq_false_iff_ne.2 hy0
          clear hy0
          have qb140 := Bb14.out.at_ 0 rfl
          have qb141 := Bb14.out.at_ 1 rfl
          by_cases hx0 : cx = 0
          · subst hx0
            obtain ⟨k2, Q2, rfl, hk2, hlX, hRX, hx2, hst, hq2⟩ := set_facts HE.out
            have hk20 : (0 : Int) ≤ (k2 : Int) := Int.natCast_nonneg _
            have hk21 : (k2 : Int) < (M.length : Int) := by omega
            have hk22 : (k2 : Int) < (X.length : Int) := by omega
            have hr2 := rowsV_at hRX 2
            have hr3 := rowsV_at hRX 3
            have hl2 : (rowsV 2 X).length = M.length := hr2.1.trans hlX
            have hl3 : (rowsV 3 X).length = M.length := hr3.1.trans hlX
            have hy2 := hr2.2 k2 _ hx2
            have hy3 := hr3.2 k2 _ hx2
            clear hr2 hr3 hlX
            go_upto_region 19 with fail
            refine wp_region_held_drew (S := (fun V => Below (w13).heap.size (w13) V)) (by kernel_rfl) ((Below.refl _ _).drew) (fun hHeld => ?_)
            refine tk 0 hHeld ?_
            refine tk 1 hHeld ?_ (hy := fun w hSw => by (try dsimp only at hSw); have k0 := (hSw.cell (p := ⟨b14, 0, none⟩) Bb14.out.lt).trans (Bb14.out.at_ 0 rfl); clear hSw; go_simp; try with_reducible rfl)
            refine tk 3 hHeld ?_
            refine tk 4 hHeld ?_ (hy := fun w hSw => by (try dsimp only at hSw); have k0 := (hSw.cell (p := ⟨b14, 0, none⟩) Bb14.out.lt).trans (Bb14.out.at_ 0 rfl); clear hSw; go_simp; try with_reducible rfl)
            refine rd1 2 (fun K hK => ?_)
            go_simp
            go_at_call 21
            refine (rowsnew_impl (mv_rd R_Node_ok HX.out hHeld)).mono ?_
            intro e x1 h
            obtain ⟨a19, c19, rfl, ho, hb⟩ := newS_elim h
            rw [hl2]
            have HR2 := Lib.hid (ho.rd (Sl_ok R_Span_ok) fun k hk => hk.2)
            clear h ho
            refine hK.out _ _ (hHeld.trans (hb.mono hHeld.size)) (fun hHeld => ?_)
            clear hK K hb
            refine rd1 5 (fun K hK => ?_)
            go_simp
            go_at_call 25
            refine (rowshard_impl (mv_rd R_Node_ok HX.out hHeld)).mono ?_
            intro e x2 h
            obtain ⟨a20, c20, rfl, ho, hb⟩ := newS_elim h
            rw [hl3]
            have HR2 := Lib.hid (mv_rd (Sl_ok R_Span_ok) HR2.out hb)
            have HR3 := Lib.hid (ho.rd (Sl_ok R_Span_ok) fun k hk => hk.2)
            clear h ho
            refine hK.out _ _ (hHeld.trans (hb.mono hHeld.size)) (fun hHeld => ?_)
            clear hK K hb
            refine tk 6 hHeld ?_
            refine tk 7 hHeld ?_
            refine rd0 ?_
            have HF := Lib.hid hHeld
            clear hHeld
            have hb := HF.out
            clear HF qb140 qb141
            have HX := Lib.hid (mv_rd R_Node_ok HX.out hb)
            have Bb14 := Lib.hid (Bb14.out.call hb)
            have HB := Lib.hid (HB.out.trans (hb.mono HB.out.size))
            clear hb
            obtain ⟨x3, hV⟩ : ∃ z9, z9 = x2.alloc (.cells #[.int .i64 0, .int .i64 1000000] 25) := ⟨_, rfl⟩
            have hb : Below x2.heap.size x2 x3 := by rw [hV]; exact (Below.refl _ _).alloc (Nat.le_refl _) _
            obtain ⟨b21, hn⟩ : ∃ b, b = x2.heap.size := ⟨_, rfl⟩
            have hq : Blk x3 b21 25 #[.int .i64 0, .int .i64 1000000] := by rw [hV, hn]; exact Blk.new _ _ _
            have HX := Lib.hid (mv_rd R_Node_ok HX.out hb)
            have Bb14 := Lib.hid (Bb14.out.call hb)
            have HR2 := Lib.hid (mv_rd (Sl_ok R_Span_ok) HR2.out hb)
            have HR3 := Lib.hid (mv_rd (Sl_ok R_Span_ok) HR3.out hb)
            have HB := Lib.hid (HB.out.trans (hb.mono HB.out.size))
            clear hb
            have Bb21 := Lib.hid hq
            clear hq
            have HA := Lib.hid (show RdSl R_Span x3 x3.heap.size [((0 : Int), (1000000 : Int))] (some ⟨b21, 0, none⟩) 1 from rd_oneS 0 1000000 Bb21.out)
            obtain ⟨g2, o2, us, rfl, hg2, hu, hr⟩ := HR2.out.at_ hy2
            obtain ⟨aq2, cq2, rfl, hq⟩ := hr
            have e2 : x3.cell? ⟨g2, o2 + k2, none⟩ = some (.slice aq2 (rowOf 2 (st, Q2)).length cq2) := by simpa [show (Sl R_Span).size = 1 from rfl] using hu 0 _ rfl
            have HQ2 := Lib.hid hq
            clear hu hq
            obtain ⟨g3, o3, us, rfl, hg3, hu, hr⟩ := HR3.out.at_ hy3
            obtain ⟨aq3, cq3, rfl, hq⟩ := hr
            have e3 : x3.cell? ⟨g3, o3 + k2, none⟩ = some (.slice aq3 (rowOf 3 (st, Q2)).length cq3) := by simpa [show (Sl R_Span).size = 1 from rfl] using hu 0 _ rfl
            have HQ3 := Lib.hid hq
            clear hu hq
            obtain ⟨g4, o4, us, rfl, hg4, hu, hr⟩ := HX.out.at_ hx2
            obtain ⟨aq4, cq4, rfl, hq⟩ := rd_Node hr
            have e4 : x3.cell? ⟨g4, o4 + k2 * 2 + 1, none⟩ = some (.slice aq4 Q2.length cq4) := by simpa [size_NodeS, Nat.add_assoc] using hu 1 _ rfl
            have HQ4 := Lib.hid hq
            clear hu hr hq
            have hq2' : Q2.length ≤ 1048576 := by omega
            have hal : ([((0 : Int), (1000000 : Int))] : List D_Span).length ≤ 1048576 := by decide
            go_upto_region 23 with fail
            rw [← hV]
            try rw [← hn]
            clear hV hn
            have hs : st = 1 ∨ st = 2 ∨ st = 3 := by omega
            clear hst
            rcases hs with rfl | rfl | rfl
            · rw [show rowOf 2 ((1 : Int), Q2) = Q2 from by simp [rowOf]] at e2 HQ2
              rw [show rowOf 3 ((1 : Int), Q2) = Q2 from by simp [rowOf]] at e3 HQ3
              go_upto_region 25 with fail
              refine wp_region_held_drew (S := (fun V => Below (x3).heap.size (x3) V)) (by kernel_rfl) ((Below.refl _ _).drew) (fun hHeld => ?_)
              refine tk 0 hHeld ?_
              refine tk 1 hHeld ?_
              refine tk 2 hHeld ?_
              refine tk 3 hHeld ?_ (hy := fun w hSw => by (try dsimp only at hSw); have k0 := (hSw.cell (p := ⟨g2, o2 + k2, none⟩) hg2).trans e2; clear hSw; go_simp; try with_reducible rfl)
              refine tk 4 hHeld ?_
              refine tk 5 hHeld ?_ (hy := fun w hSw => by (try dsimp only at hSw); have k0 := (hSw.cell (p := ⟨b14, 0, none⟩) Bb14.out.lt).trans (Bb14.out.at_ 0 rfl); clear hSw; go_simp; try with_reducible rfl)
              refine tk 6 hHeld ?_
              refine tk 7 hHeld ?_
              refine tk 8 hHeld ?_
              refine tk 9 hHeld ?_ (hy := fun w hSw => by (try dsimp only at hSw); have k0 := (hSw.cell (p := ⟨g4, o4 + k2 * 2 + 1, none⟩) hg4).trans e4; clear hSw; go_simp; try with_reducible rfl)
              refine rd1 10 (fun K hK => ?_)
              go_simp
              go_at_call 26
              refine (lwspansL hq2' (mv_rd R_Span_ok HQ2.out hHeld) (mv_rd R_Span_ok HQ4.out hHeld)).mono ?_
              intro e y1 h
              obtain ⟨rfl, hb⟩ := isB_elim h
              clear h
              refine hK.out _ _ (hHeld.trans (hb.mono hHeld.size)) (fun hHeld => ?_)
              clear hK K hb
              refine tk 11 hHeld ?_
              refine tk 12 hHeld ?_
              refine tk 13 hHeld ?_
              refine tk 14 hHeld ?_
              refine tk 15 hHeld ?_ (hy := fun w hSw => by (try dsimp only at hSw); have k0 := (hSw.cell (p := ⟨g3, o3 + k2, none⟩) hg3).trans e3; clear hSw; go_simp; try with_reducible rfl)
              refine tk 16 hHeld ?_
              refine tk 17 hHeld ?_
              refine tk 18 hHeld ?_
              refine tk 19 hHeld ?_ (hy := fun w hSw => by (try dsimp only at hSw); have k0 := (hSw.cell (p := ⟨g2, o2 + k2, none⟩) hg2).trans e2; clear hSw; go_simp; try with_reducible rfl)
              refine rd1 20 (fun K hK => ?_)
              go_simp
              go_at_call 26
              refine (lwspansL hq2' (mv_rd R_Span_ok HQ3.out hHeld) (mv_rd R_Span_ok HQ2.out hHeld)).mono ?_
              intro e y2 h
              obtain ⟨rfl, hb⟩ := isB_elim h
              clear h
              refine hK.out _ _ (hHeld.trans (hb.mono hHeld.size)) (fun hHeld => ?_)
              clear hK K hb
              refine tk 21 hHeld ?_
              refine tk 22 hHeld ?_
              refine rd0 ?_
              have HF := Lib.hid hHeld
              clear hHeld
              go_wp2
              go_ret
              exact ⟨rfl, HB.out.trans (HF.out.mono HB.out.size)⟩
            · rw [show rowOf 2 ((2 : Int), Q2) = [((0 : Int), (1000000 : Int))] from by simp [rowOf]] at e2 HQ2
              rw [show rowOf 3 ((2 : Int), Q2) = Q2 from by simp [rowOf]] at e3 HQ3
              go_upto_region 27 with fail
              refine wp_region_held_drew (S := (fun V => Below (x3).heap.size (x3) V)) (by kernel_rfl) ((Below.refl _ _).drew) (fun hHeld => ?_)
              refine tk 0 hHeld ?_
              refine tk 1 hHeld ?_
              refine tk 2 hHeld ?_
              refine tk 3 hHeld ?_ (hy := fun w hSw => by (try dsimp only at hSw); have k0 := (hSw.cell (p := ⟨g2, o2 + k2, none⟩) hg2).trans e2; clear hSw; go_simp; try with_reducible rfl)
              refine tk 4 hHeld ?_
              refine rd1 5 (fun K hK => ?_)
              go_simp
              go_at_call 26
              refine (lwspansL hal (mv_rd R_Span_ok HQ2.out hHeld) (mv_rd R_Span_ok HA.out hHeld)).mono ?_
              intro e y1 h
              obtain ⟨rfl, hb⟩ := isB_elim h
              clear h
              refine hK.out _ _ (hHeld.trans (hb.mono hHeld.size)) (fun hHeld => ?_)
              clear hK K hb
              refine tk 6 hHeld ?_
              refine tk 7 hHeld ?_
              refine tk 8 hHeld ?_
              refine tk 9 hHeld ?_
              refine tk 10 hHeld ?_ (hy := fun w hSw => by (try dsimp only at hSw); have k0 := (hSw.cell (p := ⟨g3, o3 + k2, none⟩) hg3).trans e3; clear hSw; go_simp; try with_reducible rfl)
              refine tk 11 hHeld ?_
              refine tk 12 hHeld ?_ (hy := fun w hSw => by (try dsimp only at hSw); have k0 := (hSw.cell (p := ⟨b14, 0, none⟩) Bb14.out.lt).trans (Bb14.out.at_ 0 rfl); clear hSw; go_simp; try with_reducible rfl)
              refine tk 13 hHeld ?_
              refine tk 14 hHeld ?_
              refine tk 15 hHeld ?_
              refine tk 16 hHeld ?_ (hy := fun w hSw => by (try dsimp only at hSw); have k0 := (hSw.cell (p := ⟨g4, o4 + k2 * 2 + 1, none⟩) hg4).trans e4; clear hSw; go_simp; try with_reducible rfl)
              refine rd1 17 (fun K hK => ?_)
              go_simp
              go_at_call 26
              refine (lwspansL hq2' (mv_rd R_Span_ok HQ3.out hHeld) (mv_rd R_Span_ok HQ4.out hHeld)).mono ?_
              intro e y2 h
              obtain ⟨rfl, hb⟩ := isB_elim h
              clear h
              refine hK.out _ _ (hHeld.trans (hb.mono hHeld.size)) (fun hHeld => ?_)
              clear hK K hb
              refine tk 18 hHeld ?_
              refine tk 19 hHeld ?_
              refine rd0 ?_
              have HF := Lib.hid hHeld
              clear hHeld
              go_wp2
              go_ret
              exact ⟨rfl, HB.out.trans (HF.out.mono HB.out.size)⟩
            · rw [show rowOf 2 ((3 : Int), Q2) = [((0 : Int), (1000000 : Int))] from by simp [rowOf]] at e2 HQ2
              rw [show rowOf 3 ((3 : Int), Q2) = [((0 : Int), (1000000 : Int))] from by simp [rowOf]] at e3 HQ3
              go_wp2_with fail
              refine (lwspansL hal HQ2.out HA.out).mono ?_
              intro e y1 h
              obtain ⟨rfl, hb⟩ := isB_elim h
              have HQ3 := Lib.hid (mv_rd R_Span_ok HQ3.out hb)
              have HA := Lib.hid (mv_rd R_Span_ok HA.out hb)
              have e3 := (hb.cell (p := ⟨g3, o3 + k2, none⟩) hg3).trans e3
              have HB := Lib.hid (HB.out.trans (hb.mono HB.out.size))
              clear h hb
              go_wp2_with fail
              refine (lwspansL hal HQ3.out HA.out).mono ?_
              intro e y2 h
              obtain ⟨rfl, hb⟩ := isB_elim h
              have HB := Lib.hid (HB.out.trans (hb.mono HB.out.size))
              clear h hb
              go_wp2
              go_ret
              exact ⟨rfl, HB.out⟩
          · have hxb : (cx != 0) = true := bne_iff_ne.2 hx0
            clear hx0
            go_wp2
            go_ret
            exact ⟨rfl, HB.out⟩
    · have d1 : decide ((1048576 : Int) < (la : Int)) = false := decide_eq_false (by omega)
      have d2 : decide ((1048576 : Int) < (lm : Int)) = true := decide_eq_true (by omega)
      go_wp2
      go_ret
      exact ⟨rfl, Below.refl _ _⟩
  · have d1 : decide ((1048576 : Int) < (la : Int)) = true := decide_eq_true (by omega)
    go_wp2
    go_ret
    exact ⟨rfl, Below.refl _ _⟩
end Go.Proofs.Ytfciojkibklkfaa.RepC
end
