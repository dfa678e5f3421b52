/- Of this claim's texts the part 4: DkR. -/
import Derived.Test.YtphklknaagjmpaaDoorPk3
section
namespace Go.Proofs.YtphklknaagjmpaaDoor.RepC
open Go.RowKit RowC ValC SpanC KeptC
set_option linter.unusedVariables false
set_option linter.unusedSimpArgs false
theorem FRow.lower {α : Type} {E : Rp α} {f : α → List Value} {w : World} {lo lo' : Nat} {T : TypeId} {v : Value} {L : List α} (h : FRow E f w lo T v L) (hl : lo' ≤ lo) : FRow E f w lo' T v L := by
  refine ⟨?_, fun k hk => ⟨Nat.le_trans hl (h.blk k hk).1, (h.blk k hk).2⟩⟩
  obtain ⟨h1, h2⟩ := h.own
  refine ⟨h1, ?_⟩
  rcases h2 with h2 | ⟨g, cap, cur, rfl, hlo, h3⟩
  · exact .inl h2
  · exact .inr ⟨g, cap, cur, rfl, Nat.le_trans hl hlo, h3⟩
def CopyR (P B A : List D_Letter) (u n : Int) (W : World) (e : Ending) (w' : World) : Prop := ∃ xa xc ya yc za zc, e = .returned (.agg #[.slice xa P.length xc, .slice ya B.length yc, .slice za A.length zc, .int .i64 u, .int .i64 n]) ∧
  LRow w' W.heap.size (.slice xa P.length xc) P ∧ LRow w' W.heap.size (.slice ya B.length yc) B ∧ LRow w' W.heap.size (.slice za A.length zc) A ∧
  (∀ k, (Value.slice xa P.length xc).ownBlock = some k → (Value.slice ya B.length yc).ownBlock ≠ some k ∧ (Value.slice za A.length zc).ownBlock ≠ some k) ∧ (∀ k, (Value.slice ya B.length yc).ownBlock = some k → (Value.slice za A.length zc).ownBlock ≠ some k) ∧ Below W.heap.size W w'
theorem copyR_elim {P B A : List D_Letter} {u n : Int} {W : World} {e : Ending} {w' : World} (h : CopyR P B A u n W e w') : ∃ xa xc ya yc za zc, e = .returned (.agg #[.slice xa P.length xc, .slice ya B.length yc, .slice za A.length zc, .int .i64 u, .int .i64 n]) ∧
  LRow w' W.heap.size (.slice xa P.length xc) P ∧ LRow w' W.heap.size (.slice ya B.length yc) B ∧ LRow w' W.heap.size (.slice za A.length zc) A ∧
  (∀ k, (Value.slice xa P.length xc).ownBlock = some k → (Value.slice ya B.length yc).ownBlock ≠ some k ∧ (Value.slice za A.length zc).ownBlock ≠ some k) ∧ (∀ k, (Value.slice ya B.length yc).ownBlock = some k → (Value.slice za A.length zc).ownBlock ≠ some k) ∧ Below W.heap.size W w' := h
def Own (v : Value) (lo hi : Nat) (p : Nat → Prop) : Prop := ∀ k, v.ownBlock = some k → lo ≤ k ∧ k < hi ∧ p k
theorem own_mk (g c : Nat) {lo hi : Nat} (h1 : lo ≤ g) (h2 : g < hi) : Own (.slice (some ⟨g, 0, none⟩) 0 c) lo hi (fun k => k = g) := fun k hk => by cases hk; exact ⟨h1, h2, rfl⟩
theorem Own.mono {v : Value} {lo hi hi' : Nat} {p : Nat → Prop} (h : Own v lo hi p) (hh : hi ≤ hi') : Own v lo hi' p := fun k hk => ⟨(h k hk).1, Nat.lt_of_lt_of_le (h k hk).2.1 hh, (h k hk).2.2⟩
theorem LRow.mv2 {w w' : World} {lo g : Nat} {v : Value} {L : List D_Letter} (h : LRow w lo v L) (hO : But2 w w' g) (hg : ∀ k, v.ownBlock = some k → k ≠ g) : LRow w' lo v L := FRow.mv h hO.1 fun k hk => hO.2.1 k (h.blk k hk).2 (hg k hk)
set_option maxRecDepth 100000 in
set_option maxHeartbeats 4000000 in
theorem copy_spec {P B A : List D_Letter} {pa ba aa : Option Addr} {pc bc ac : Nat} {u n : Int} {W : World} (hn : P.length ≤ 1073741824 ∧ B.length ≤ 1073741824 ∧ A.length ≤ 1073741824) (hP : RdSl R_Letter W W.heap.size P pa pc) (hB : RdSl R_Letter W W.heap.size B ba bc) (hA : RdSl R_Letter W W.heap.size A aa ac) : Calls Tryd.prog 28 #[.agg #[.slice pa P.length pc, .slice ba B.length bc, .slice aa A.length ac, .int .i64 u, .int .i64 n]] W (CopyR P B A u n W) := by
  obtain ⟨hb0, hd0, hr0⟩ := bx2 W #[.slice pa P.length pc, .slice ba B.length bc, .slice aa A.length ac, .int .i64 u, .int .i64 n] #[.slice none 0 0, .slice none 0 0, .slice none 0 0, .int .i64 0, .int .i64 0] 25 25
  obtain ⟨w0, hw0⟩ : ∃ w, w = (W.alloc (.cells #[.slice pa P.length pc, .slice ba B.length bc, .slice aa A.length ac, .int .i64 u, .int .i64 n] 25)).alloc (.cells #[.slice none 0 0, .slice none 0 0, .slice none 0 0, .int .i64 0, .int .i64 0] 25) := ⟨_, rfl⟩
  have hs0 : w0.heap.size = W.heap.size + 2 := by rw [hw0]; simp
  rw [← hw0] at hb0 hd0 hr0
  have HB0 := Lib.hid hb0
  have HP := Lib.hid hP
  have HBB := Lib.hid hB
  have HA := Lib.hid hA
  have HD0 := Lib.hid hd0
  have HR := Lib.hid (show Blk w0.drew (W.heap.size + 1) 25 #[.slice none 0 0, .slice none 0 0, .slice none 0 0, .int .i64 0, .int .i64 0] from hr0)
  have hlen := hn
  clear hb0 hd0 hr0 hP hB hA hn
  have hS0 := Lib.hid hs0
  clear hs0
  go_enter Tryd.func28, Tryd.ntmps28
  go_wp2_with fail
  rw [← hw0]
  clear hw0
  refine wp_region_held_drew (S := (fun V => Below (W.heap.size + 1) w0 V)) (by kernel_rfl) ((Below.refl _ _).drew) (fun hHeld => ?_)
  obtain ⟨wd, hwd⟩ : ∃ w, w = w0.drew := ⟨_, rfl⟩
  rw [← hwd] at hHeld HR
  rw [← hwd]
  clear hwd
  refine tk 1 hHeld ?_
  refine tk 2 hHeld ?_ (hy := fun w hSw => by (try dsimp only at hSw); have k0 := (hSw.cell (p := ⟨W.heap.size, 0, none⟩) (Nat.lt_succ_self _)).trans (HD0.out.at_ 0 rfl); have k1 := (hSw.cell (p := ⟨W.heap.size, 1, none⟩) (Nat.lt_succ_self _)).trans (HD0.out.at_ 1 rfl); have k2 := (hSw.cell (p := ⟨W.heap.size, 2, none⟩) (Nat.lt_succ_self _)).trans (HD0.out.at_ 2 rfl); have k3 := (hSw.cell (p := ⟨W.heap.size, 3, none⟩) (Nat.lt_succ_self _)).trans (HD0.out.at_ 3 rfl); have k4 := (hSw.cell (p := ⟨W.heap.size, 4, none⟩) (Nat.lt_succ_self _)).trans (HD0.out.at_ 4 rfl); clear hSw; go_simp; try with_reducible rfl)
  refine tk 5 hHeld ?_
  refine tk 6 hHeld ?_ (hy := fun w hSw => by (try dsimp only at hSw); have k0 := (hSw.cell (p := ⟨W.heap.size, 0, none⟩) (Nat.lt_succ_self _)).trans (HD0.out.at_ 0 rfl); have k1 := (hSw.cell (p := ⟨W.heap.size, 1, none⟩) (Nat.lt_succ_self _)).trans (HD0.out.at_ 1 rfl); have k2 := (hSw.cell (p := ⟨W.heap.size, 2, none⟩) (Nat.lt_succ_self _)).trans (HD0.out.at_ 2 rfl); have k3 := (hSw.cell (p := ⟨W.heap.size, 3, none⟩) (Nat.lt_succ_self _)).trans (HD0.out.at_ 3 rfl); have k4 := (hSw.cell (p := ⟨W.heap.size, 4, none⟩) (Nat.lt_succ_self _)).trans (HD0.out.at_ 4 rfl); clear hSw; go_simp; try with_reducible rfl)
  refine tk 9 hHeld ?_
  refine tk 10 hHeld ?_ (hy := fun w hSw => by (try dsimp only at hSw); have k0 := (hSw.cell (p := ⟨W.heap.size, 0, none⟩) (Nat.lt_succ_self _)).trans (HD0.out.at_ 0 rfl); have k1 := (hSw.cell (p := ⟨W.heap.size, 1, none⟩) (Nat.lt_succ_self _)).trans (HD0.out.at_ 1 rfl); have k2 := (hSw.cell (p := ⟨W.heap.size, 2, none⟩) (Nat.lt_succ_self _)).trans (HD0.out.at_ 2 rfl); have k3 := (hSw.cell (p := ⟨W.heap.size, 3, none⟩) (Nat.lt_succ_self _)).trans (HD0.out.at_ 3 rfl); have k4 := (hSw.cell (p := ⟨W.heap.size, 4, none⟩) (Nat.lt_succ_self _)).trans (HD0.out.at_ 4 rfl); clear hSw; go_simp; try with_reducible rfl)
  refine tk 12 hHeld ?_
  refine tk 13 hHeld ?_ (hy := fun w hSw => by (try dsimp only at hSw); have k0 := (hSw.cell (p := ⟨W.heap.size, 0, none⟩) (Nat.lt_succ_self _)).trans (HD0.out.at_ 0 rfl); have k1 := (hSw.cell (p := ⟨W.heap.size, 1, none⟩) (Nat.lt_succ_self _)).trans (HD0.out.at_ 1 rfl); have k2 := (hSw.cell (p := ⟨W.heap.size, 2, none⟩) (Nat.lt_succ_self _)).trans (HD0.out.at_ 2 rfl); have k3 := (hSw.cell (p := ⟨W.heap.size, 3, none⟩) (Nat.lt_succ_self _)).trans (HD0.out.at_ 3 rfl); have k4 := (hSw.cell (p := ⟨W.heap.size, 4, none⟩) (Nat.lt_succ_self _)).trans (HD0.out.at_ 4 rfl); clear hSw; go_simp; try with_reducible rfl)
  refine tk 14 hHeld ?_
  refine tk 15 hHeld ?_ (hy := fun w hSw => by (try dsimp only at hSw); have k0 := (hSw.cell (p := ⟨W.heap.size, 0, none⟩) (Nat.lt_succ_self _)).trans (HD0.out.at_ 0 rfl); have k1 := (hSw.cell (p := ⟨W.heap.size, 1, none⟩) (Nat.lt_succ_self _)).trans (HD0.out.at_ 1 rfl); have k2 := (hSw.cell (p := ⟨W.heap.size, 2, none⟩) (Nat.lt_succ_self _)).trans (HD0.out.at_ 2 rfl); have k3 := (hSw.cell (p := ⟨W.heap.size, 3, none⟩) (Nat.lt_succ_self _)).trans (HD0.out.at_ 3 rfl); have k4 := (hSw.cell (p := ⟨W.heap.size, 4, none⟩) (Nat.lt_succ_self _)).trans (HD0.out.at_ 4 rfl); clear hSw; go_simp; try with_reducible rfl)
  refine rd3 0 4 8 (fun K hK => ?_) (fun K hK => ?_) (fun K hK => ?_)
  · skip
    go_simp
    obtain ⟨v1, hw⟩ : ∃ w', w' = wd.alloc (.cells #[] 48) := ⟨_, rfl⟩
    have hO : But2 wd v1 wd.heap.size := by rw [hw]; exact But2.alloc _ _
    have hle0 : w0.heap.size ≤ wd.heap.size := hHeld.size
    have hlt0 : wd.heap.size < v1.heap.size := by rw [hw]; simp
    have hrow : LRow v1 W.heap.size (.slice (some ⟨wd.heap.size, 0, none⟩) 0 0) [] := by rw [hw]; exact (FRow.made _ _ wd _).lower (by have := hS0.out; show W.heap.size ≤ wd.heap.size; omega)
    have HR := Lib.hid (hO.blk HR.out (by have := hS0.out; omega))
    have HM0 := Lib.hid hrow
    have HQ0 := Lib.hid (own_mk wd.heap.size 0 hle0 hlt0)
    have HSZ0 := Lib.hid hlt0
    have hbs := hO.2.2 (W.heap.size + 1) (by have := hS0.out; omega) (by have := hS0.out; show _ ≤ wd.heap.size; omega)
    rw [← hw]
    clear hw hrow hlt0
    refine hK.out _ _ (hHeld.trans hbs) (fun hHeld => ?_)
    clear hO hle0 hbs
    clear hK K
    refine rd3 3 4 8 (fun K hK => ?_) (fun K hK => ?_) (fun K hK => ?_)
    · skip
      have hq := HQ0.out _ rfl
      obtain ⟨xa, xc, v2, hr, hrow, hO, hown⟩ := LRow.grow HM0.out (g := wd.heap.size) (fun k hk => (HQ0.out k hk).2.2) hq.2.1 ((HP.out.below R_Letter_ok (HB0.out.trans (hHeld.mono (Nat.le_succ _)))).more R_Letter_ok (HB0.out.trans (hHeld.mono (Nat.le_succ _))).size) (by have := hS0.out; have := hq.1; omega) (by have := hlen.1; simp only [List.length_nil]; omega)
      simp only [List.nil_append, List.length_nil] at hr hrow hown
      have HRUN := Lib.hid hr
      clear hr
      have HR := Lib.hid (hO.blk HR.out (by have := hS0.out; have := hq.1; omega))
      have HM0 := Lib.hid hrow
      have HQ0 := Lib.hid (show Own (Value.slice xa P.length xc) w0.heap.size v2.heap.size (fun _ => True) from fun k hk => ⟨by rcases hown k hk with e | e; (have := hq.1; omega); (have := hHeld.size; exact Nat.le_trans this e), (hrow.blk k hk).2, trivial⟩)
      have hbs := hO.2.2 (W.heap.size + 1) (by have := hS0.out; have := hq.1; omega) (by have := hS0.out; have := hHeld.size; omega)
      clear hq hrow hown hO
      refine step_app rfl (.tmp 3) (.tmp 5) 23 rfl rfl rfl HRUN.out ?_
      refine hK.out _ _ (hHeld.trans hbs) (fun hHeld => ?_)
      clear hbs HRUN
      clear hK K
      refine rd2 4 8 (fun K hK => ?_) (fun K hK => ?_)
      · skip
        go_simp
        obtain ⟨v3, hw⟩ : ∃ w', w' = v2.alloc (.cells #[] 48) := ⟨_, rfl⟩
        have hO : But2 v2 v3 v2.heap.size := by rw [hw]; exact But2.alloc _ _
        have hle0 : w0.heap.size ≤ v2.heap.size := hHeld.size
        have hlt0 : v2.heap.size < v3.heap.size := by rw [hw]; simp
        have hrow : LRow v3 W.heap.size (.slice (some ⟨v2.heap.size, 0, none⟩) 0 0) [] := by rw [hw]; exact (FRow.made _ _ v2 _).lower (by have := hS0.out; show W.heap.size ≤ v2.heap.size; omega)
        have HX01 := Lib.hid (show ∀ k, (Value.slice xa P.length xc).ownBlock = some k → k ≠ v2.heap.size from fun k hk => Nat.ne_of_lt (HQ0.out k hk).2.1)
        have HR := Lib.hid (hO.blk HR.out (by have := hS0.out; omega))
        have HM0 := Lib.hid (LRow.mv2 HM0.out hO (fun k hk => HX01.out k hk))
        have HQ0 := Lib.hid (HQ0.out.mono hO.1)
        have HM1 := Lib.hid hrow
        have HQ1 := Lib.hid (own_mk v2.heap.size 0 hle0 hlt0)
        have HSZ1 := Lib.hid hlt0
        have hbs := hO.2.2 (W.heap.size + 1) (by have := hS0.out; omega) (by have := hS0.out; show _ ≤ v2.heap.size; omega)
        rw [← hw]
        clear hw hrow hlt0
        refine hK.out _ _ (hHeld.trans hbs) (fun hHeld => ?_)
        clear hO hle0 hbs
        clear hK K
        refine rd2 7 8 (fun K hK => ?_) (fun K hK => ?_)
        · skip
          have hq := HQ1.out _ rfl
          obtain ⟨ya, yc, v4, hr, hrow, hO, hown⟩ := LRow.grow HM1.out (g := v2.heap.size) (fun k hk => (HQ1.out k hk).2.2) hq.2.1 ((HBB.out.below R_Letter_ok (HB0.out.trans (hHeld.mono (Nat.le_succ _)))).more R_Letter_ok (HB0.out.trans (hHeld.mono (Nat.le_succ _))).size) (by have := hS0.out; have := hq.1; omega) (by have := hlen.2.1; simp only [List.length_nil]; omega)
          simp only [List.nil_append, List.length_nil] at hr hrow hown
          have HRUN := Lib.hid hr
          clear hr
          have HN01 := Lib.hid (show ∀ k, (Value.slice xa P.length xc).ownBlock = some k → (Value.slice ya B.length yc).ownBlock = some k → False from fun k hk h2 => by rcases hown k h2 with e | e; exact HX01.out k hk e; (have h1 := (HQ0.out k hk).2.1; omega))
          have HR := Lib.hid (hO.blk HR.out (by have := hS0.out; have := hq.1; omega))
          have HM0 := Lib.hid (LRow.mv2 HM0.out hO (fun k hk => HX01.out k hk))
          have HQ0 := Lib.hid (HQ0.out.mono hO.1)
          have HM1 := Lib.hid hrow
          have HQ1 := Lib.hid (show Own (Value.slice ya B.length yc) w0.heap.size v4.heap.size (fun _ => True) from fun k hk => ⟨by rcases hown k hk with e | e; (have := hq.1; omega); (have := hHeld.size; exact Nat.le_trans this e), (hrow.blk k hk).2, trivial⟩)
          have hbs := hO.2.2 (W.heap.size + 1) (by have := hS0.out; have := hq.1; omega) (by have := hS0.out; have := hHeld.size; omega)
          clear hq hrow hown hO
          refine step_app rfl (.tmp 7) (.tmp 9) 23 rfl rfl rfl HRUN.out ?_
          refine hK.out _ _ (hHeld.trans hbs) (fun hHeld => ?_)
          clear hbs HRUN
          clear hK K
          refine rd1 8 (fun K hK => ?_)
          go_simp
          obtain ⟨v5, hw⟩ : ∃ w', w' = v4.alloc (.cells #[] 48) := ⟨_, rfl⟩
          have hO : But2 v4 v5 v4.heap.size := by rw [hw]; exact But2.alloc _ _
          have hle0 : w0.heap.size ≤ v4.heap.size := hHeld.size
          have hlt0 : v4.heap.size < v5.heap.size := by rw [hw]; simp
          have hrow : LRow v5 W.heap.size (.slice (some ⟨v4.heap.size, 0, none⟩) 0 0) [] := by rw [hw]; exact (FRow.made _ _ v4 _).lower (by have := hS0.out; show W.heap.size ≤ v4.heap.size; omega)
          have HX02 := Lib.hid (show ∀ k, (Value.slice xa P.length xc).ownBlock = some k → k ≠ v4.heap.size from fun k hk => Nat.ne_of_lt (HQ0.out k hk).2.1)
          have HX12 := Lib.hid (show ∀ k, (Value.slice ya B.length yc).ownBlock = some k → k ≠ v4.heap.size from fun k hk => Nat.ne_of_lt (HQ1.out k hk).2.1)
          have HR := Lib.hid (hO.blk HR.out (by have := hS0.out; omega))
          have HM0 := Lib.hid (LRow.mv2 HM0.out hO (fun k hk => HX02.out k hk))
          have HQ0 := Lib.hid (HQ0.out.mono hO.1)
          have HM1 := Lib.hid (LRow.mv2 HM1.out hO (fun k hk => HX12.out k hk))
          have HQ1 := Lib.hid (HQ1.out.mono hO.1)
          have HM2 := Lib.hid hrow
          have HQ2 := Lib.hid (own_mk v4.heap.size 0 hle0 hlt0)
          have HSZ2 := Lib.hid hlt0
          have hbs := hO.2.2 (W.heap.size + 1) (by have := hS0.out; omega) (by have := hS0.out; show _ ≤ v4.heap.size; omega)
          rw [← hw]
          clear hw hrow hlt0
          refine hK.out _ _ (hHeld.trans hbs) (fun hHeld => ?_)
          clear hO hle0 hbs
          clear hK K
          refine rd1 11 (fun K hK => ?_)
          have hq := HQ2.out _ rfl
          obtain ⟨za, zc, v6, hr, hrow, hO, hown⟩ := LRow.grow HM2.out (g := v4.heap.size) (fun k hk => (HQ2.out k hk).2.2) hq.2.1 ((HA.out.below R_Letter_ok (HB0.out.trans (hHeld.mono (Nat.le_succ _)))).more R_Letter_ok (HB0.out.trans (hHeld.mono (Nat.le_succ _))).size) (by have := hS0.out; have := hq.1; omega) (by have := hlen.2.2; simp only [List.length_nil]; omega)
          simp only [List.nil_append, List.length_nil] at hr hrow hown
          have HRUN := Lib.hid hr
          clear hr
          have HN02 := Lib.hid (show ∀ k, (Value.slice xa P.length xc).ownBlock = some k → (Value.slice za A.length zc).ownBlock = some k → False from fun k hk h2 => by rcases hown k h2 with e | e; exact HX02.out k hk e; (have h1 := (HQ0.out k hk).2.1; omega))
          have HN12 := Lib.hid (show ∀ k, (Value.slice ya B.length yc).ownBlock = some k → (Value.slice za A.length zc).ownBlock = some k → False from fun k hk h2 => by rcases hown k h2 with e | e; exact HX12.out k hk e; (have h1 := (HQ1.out k hk).2.1; omega))
          have HR := Lib.hid (hO.blk HR.out (by have := hS0.out; have := hq.1; omega))
          have HM0 := Lib.hid (LRow.mv2 HM0.out hO (fun k hk => HX02.out k hk))
          have HQ0 := Lib.hid (HQ0.out.mono hO.1)
          have HM1 := Lib.hid (LRow.mv2 HM1.out hO (fun k hk => HX12.out k hk))
          have HQ1 := Lib.hid (HQ1.out.mono hO.1)
          have HM2 := Lib.hid hrow
          have HQ2 := Lib.hid (show Own (Value.slice za A.length zc) w0.heap.size v6.heap.size (fun _ => True) from fun k hk => ⟨by rcases hown k hk with e | e; (have := hq.1; omega); (have := hHeld.size; exact Nat.le_trans this e), (hrow.blk k hk).2, trivial⟩)
          have hbs := hO.2.2 (W.heap.size + 1) (by have := hS0.out; have := hq.1; omega) (by have := hS0.out; have := hHeld.size; omega)
          clear hq hrow hown hO
          refine step_app rfl (.tmp 11) (.tmp 13) 23 rfl rfl rfl HRUN.out ?_
          refine hK.out _ _ (hHeld.trans hbs) (fun hHeld => ?_)
          clear hbs HRUN
          clear hK K
          refine tk 16 hHeld ?_
          refine rd1 17 (fun K hK => ?_)
          have qHR_0 := HR.out.at_ 0 rfl
          have qHR_1 := HR.out.at_ 1 rfl
          have qHR_2 := HR.out.at_ 2 rfl
          have qHR_3 := HR.out.at_ 3 rfl
          have qHR_4 := HR.out.at_ 4 rfl
          have sHR_0 := HR.out.soft 0
          have sHR_1 := HR.out.soft 1
          have sHR_2 := HR.out.soft 2
          have sHR_3 := HR.out.soft 3
          have sHR_4 := HR.out.soft 4
          go_simp
          refine hK.out _ _ (((((hHeld.setCell (p := ⟨W.heap.size + 1, 0, none⟩) (Nat.le_refl _) (.slice xa P.length xc)).setCell (p := ⟨W.heap.size + 1, 1, none⟩) (Nat.le_refl _) (.slice ya B.length yc)).setCell (p := ⟨W.heap.size + 1, 2, none⟩) (Nat.le_refl _) (.slice za A.length zc)).setCell (p := ⟨W.heap.size + 1, 3, none⟩) (Nat.le_refl _) (.int .i64 u)).setCell (p := ⟨W.heap.size + 1, 4, none⟩) (Nat.le_refl _) (.int .i64 n)) (fun hHeld => ?_)
          clear qHR_0 sHR_0 qHR_1 sHR_1 qHR_2 sHR_2 qHR_3 sHR_3 qHR_4 sHR_4
          clear hK K
          refine rd0 ?_
          have qHR_0 := HR.out.at_ 0 rfl
          have qHR_1 := HR.out.at_ 1 rfl
          have qHR_2 := HR.out.at_ 2 rfl
          have qHR_3 := HR.out.at_ 3 rfl
          have qHR_4 := HR.out.at_ 4 rfl
          go_wp2
          refine bodyPost_ret (v := .agg #[.slice xa P.length xc, .slice ya B.length yc, .slice za A.length zc, .int .i64 u, .int .i64 n]) (by simp [results, Tryd.results28, go_sem, *]) rfl ?_
          have hoff := ((((((Off.refl (fun x => x = W.heap.size + 1) v6).setCell (p := ⟨W.heap.size + 1, 0, none⟩) (rfl) (.slice xa P.length xc)).setCell (p := ⟨W.heap.size + 1, 1, none⟩) (rfl) (.slice ya B.length yc)).setCell (p := ⟨W.heap.size + 1, 2, none⟩) (rfl) (.slice za A.length zc)).setCell (p := ⟨W.heap.size + 1, 3, none⟩) (rfl) (.int .i64 u)).setCell (p := ⟨W.heap.size + 1, 4, none⟩) (rfl) (.int .i64 n))
          have hO : But2 v6 _ (W.heap.size + 1) := ⟨hoff.size, fun k hk hne => hoff.block k hk hne, fun C hC hCw => hoff.below hCw (fun k hk => by rw [hk]; exact hC)⟩
          have hbf := HB0.out.trans (hHeld.mono (Nat.le_succ _))
          have hs := hS0.out
          exact ⟨xa, xc, ya, yc, za, zc, rfl, LRow.mv2 HM0.out hO (fun k hk => by have h1 := HQ0.out k hk; omega), LRow.mv2 HM1.out hO (fun k hk => by have h1 := HQ1.out k hk; omega), LRow.mv2 HM2.out hO (fun k hk => by have h1 := HQ2.out k hk; omega), fun k hk => ⟨fun h2 => HN01.out k hk h2, fun h2 => HN02.out k hk h2⟩, fun k hk h2 => HN12.out k hk h2, hbf⟩
        · skip
          go_simp
          obtain ⟨v8, hw⟩ : ∃ w', w' = v3.alloc (.cells #[] 48) := ⟨_, rfl⟩
          have hO : But2 v3 v8 v3.heap.size := by rw [hw]; exact But2.alloc _ _
          have hle0 : w0.heap.size ≤ v3.heap.size := hHeld.size
          have hlt0 : v3.heap.size < v8.heap.size := by rw [hw]; simp
          have hrow : LRow v8 W.heap.size (.slice (some ⟨v3.heap.size, 0, none⟩) 0 0) [] := by rw [hw]; exact (FRow.made _ _ v3 _).lower (by have := hS0.out; show W.heap.size ≤ v3.heap.size; omega)
          have HX02 := Lib.hid (show ∀ k, (Value.slice xa P.length xc).ownBlock = some k → k ≠ v3.heap.size from fun k hk => Nat.ne_of_lt (HQ0.out k hk).2.1)
          have HX12 := Lib.hid (show ∀ k, (Value.slice (some ⟨v2.heap.size, 0, none⟩) 0 0).ownBlock = some k → k ≠ v3.heap.size from fun k hk => Nat.ne_of_lt (HQ1.out k hk).2.1)
          have HX21 := Lib.hid (show ∀ k, (Value.slice (some ⟨v3.heap.size, 0, none⟩) 0 0).ownBlock = some k → k ≠ v2.heap.size from fun k hk => by cases hk; exact Nat.ne_of_gt HSZ1.out)
          have HR := Lib.hid (hO.blk HR.out (by have := hS0.out; omega))
          have HM0 := Lib.hid (LRow.mv2 HM0.out hO (fun k hk => HX02.out k hk))
          have HQ0 := Lib.hid (HQ0.out.mono hO.1)
          have HM1 := Lib.hid (LRow.mv2 HM1.out hO (fun k hk => HX12.out k hk))
          have HQ1 := Lib.hid (HQ1.out.mono hO.1)
          have HSZ1 := Lib.hid (Nat.lt_of_lt_of_le HSZ1.out hO.1)
          have HM2 := Lib.hid hrow
          have HQ2 := Lib.hid (own_mk v3.heap.size 0 hle0 hlt0)
          have HSZ2 := Lib.hid hlt0
          have hbs := hO.2.2 (W.heap.size + 1) (by have := hS0.out; omega) (by have := hS0.out; show _ ≤ v3.heap.size; omega)
          rw [← hw]
          clear hw hrow hlt0
          refine hK.out _ _ (hHeld.trans hbs) (fun hHeld => ?_)
          clear hO hle0 hbs
          clear hK K
          refine rd1 7 (fun K hK => ?_)
          have hq := HQ1.out _ rfl
          obtain ⟨ya, yc, v9, hr, hrow, hO, hown⟩ := LRow.grow HM1.out (g := v2.heap.size) (fun k hk => (HQ1.out k hk).2.2) hq.2.1 ((HBB.out.below R_Letter_ok (HB0.out.trans (hHeld.mono (Nat.le_succ _)))).more R_Letter_ok (HB0.out.trans (hHeld.mono (Nat.le_succ _))).size) (by have := hS0.out; have := hq.1; omega) (by have := hlen.2.1; simp only [List.length_nil]; omega)
          simp only [List.nil_append, List.length_nil] at hr hrow hown
          have HRUN := Lib.hid hr
          clear hr
          have HN01 := Lib.hid (show ∀ k, (Value.slice xa P.length xc).ownBlock = some k → (Value.slice ya B.length yc).ownBlock = some k → False from fun k hk h2 => by rcases hown k h2 with e | e; exact HX01.out k hk e; (have h1 := (HQ0.out k hk).2.1; omega))
          have HX12 := Lib.hid (show ∀ k, (Value.slice ya B.length yc).ownBlock = some k → k ≠ v3.heap.size from fun k hk e => by rcases hown k hk with e2 | e2; (have h1 := HX12.out _ rfl; omega); (have h3 := HSZ2.out; omega))
          have HR := Lib.hid (hO.blk HR.out (by have := hS0.out; have := hq.1; omega))
          have HM0 := Lib.hid (LRow.mv2 HM0.out hO (fun k hk => HX01.out k hk))
          have HQ0 := Lib.hid (HQ0.out.mono hO.1)
          have HM2 := Lib.hid (LRow.mv2 HM2.out hO (fun k hk => HX21.out k hk))
          have HQ2 := Lib.hid (HQ2.out.mono hO.1)
          have HM1 := Lib.hid hrow
          have HQ1 := Lib.hid (show Own (Value.slice ya B.length yc) w0.heap.size v9.heap.size (fun _ => True) from fun k hk => ⟨by rcases hown k hk with e | e; (have := hq.1; omega); (have := hHeld.size; exact Nat.le_trans this e), (hrow.blk k hk).2, trivial⟩)
          have HSZ2 := Lib.hid (Nat.lt_of_lt_of_le HSZ2.out hO.1)
          have hbs := hO.2.2 (W.heap.size + 1) (by have := hS0.out; have := hq.1; omega) (by have := hS0.out; have := hHeld.size; omega)
          clear hq hrow hown hO
          refine step_app rfl (.tmp 7) (.tmp 9) 23 rfl rfl rfl HRUN.out ?_
          refine hK.out _ _ (hHeld.trans hbs) (fun hHeld => ?_)
          clear hbs HRUN
          clear hK K
          refine rd1 11 (fun K hK => ?_)
          have hq := HQ2.out _ rfl
          obtain ⟨za, zc, v10, hr, hrow, hO, hown⟩ := LRow.grow HM2.out (g := v3.heap.size) (fun k hk => (HQ2.out k hk).2.2) hq.2.1 ((HA.out.below R_Letter_ok (HB0.out.trans (hHeld.mono (Nat.le_succ _)))).more R_Letter_ok (HB0.out.trans (hHeld.mono (Nat.le_succ _))).size) (by have := hS0.out; have := hq.1; omega) (by have := hlen.2.2; simp only [List.length_nil]; omega)
          simp only [List.nil_append, List.length_nil] at hr hrow hown
          have HRUN := Lib.hid hr
          clear hr
          have HN02 := Lib.hid (show ∀ k, (Value.slice xa P.length xc).ownBlock = some k → (Value.slice za A.length zc).ownBlock = some k → False from fun k hk h2 => by rcases hown k h2 with e | e; exact HX02.out k hk e; (have h1 := (HQ0.out k hk).2.1; omega))
          have HN12 := Lib.hid (show ∀ k, (Value.slice ya B.length yc).ownBlock = some k → (Value.slice za A.length zc).ownBlock = some k → False from fun k hk h2 => by rcases hown k h2 with e | e; exact HX12.out k hk e; (have h1 := (HQ1.out k hk).2.1; omega))
          have HR := Lib.hid (hO.blk HR.out (by have := hS0.out; have := hq.1; omega))
          have HM0 := Lib.hid (LRow.mv2 HM0.out hO (fun k hk => HX02.out k hk))
          have HQ0 := Lib.hid (HQ0.out.mono hO.1)
          have HM1 := Lib.hid (LRow.mv2 HM1.out hO (fun k hk => HX12.out k hk))
          have HQ1 := Lib.hid (HQ1.out.mono hO.1)
          have HM2 := Lib.hid hrow
          have HQ2 := Lib.hid (show Own (Value.slice za A.length zc) w0.heap.size v10.heap.size (fun _ => True) from fun k hk => ⟨by rcases hown k hk with e | e; (have := hq.1; omega); (have := hHeld.size; exact Nat.le_trans this e), (hrow.blk k hk).2, trivial⟩)
          have hbs := hO.2.2 (W.heap.size + 1) (by have := hS0.out; have := hq.1; omega) (by have := hS0.out; have := hHeld.size; omega)
          clear hq hrow hown hO
          refine step_app rfl (.tmp 11) (.tmp 13) 23 rfl rfl rfl HRUN.out ?_
          refine hK.out _ _ (hHeld.trans hbs) (fun hHeld => ?_)
          clear hbs HRUN
          clear hK K
          refine tk 16 hHeld ?_
          refine rd1 17 (fun K hK => ?_)
          have qHR_0 := HR.out.at_ 0 rfl
          have qHR_1 := HR.out.at_ 1 rfl
          have qHR_2 := HR.out.at_ 2 rfl
          have qHR_3 := HR.out.at_ 3 rfl
          have qHR_4 := HR.out.at_ 4 rfl
          have sHR_0 := HR.out.soft 0
          have sHR_1 := HR.out.soft 1
          have sHR_2 := HR.out.soft 2
          have sHR_3 := HR.out.soft 3
          have sHR_4 := HR.out.soft 4
          go_simp
          refine hK.out _ _ (((((hHeld.setCell (p := ⟨W.heap.size + 1, 0, none⟩) (Nat.le_refl _) (.slice xa P.length xc)).setCell (p := ⟨W.heap.size + 1, 1, none⟩) (Nat.le_refl _) (.slice ya B.length yc)).setCell (p := ⟨W.heap.size + 1, 2, none⟩) (Nat.le_refl _) (.slice za A.length zc)).setCell (p := ⟨W.heap.size + 1, 3, none⟩) (Nat.le_refl _) (.int .i64 u)).setCell (p := ⟨W.heap.size + 1, 4, none⟩) (Nat.le_refl _) (.int .i64 n)) (fun hHeld => ?_)
          clear qHR_0 sHR_0 qHR_1 sHR_1 qHR_2 sHR_2 qHR_3 sHR_3 qHR_4 sHR_4
          clear hK K
          refine rd0 ?_
          have qHR_0 := HR.out.at_ 0 rfl
          have qHR_1 := HR.out.at_ 1 rfl
          have qHR_2 := HR.out.at_ 2 rfl
          have qHR_3 := HR.out.at_ 3 rfl
          have qHR_4 := HR.out.at_ 4 rfl
          go_wp2
          refine bodyPost_ret (v := .agg #[.slice xa P.length xc, .slice ya B.length yc, .slice za A.length zc, .int .i64 u, .int .i64 n]) (by simp [results, Tryd.results28, go_sem, *]) rfl ?_
          have hoff := ((((((Off.refl (fun x => x = W.heap.size + 1) v10).setCell (p := ⟨W.heap.size + 1, 0, none⟩) (rfl) (.slice xa P.length xc)).setCell (p := ⟨W.heap.size + 1, 1, none⟩) (rfl) (.slice ya B.length yc)).setCell (p := ⟨W.heap.size + 1, 2, none⟩) (rfl) (.slice za A.length zc)).setCell (p := ⟨W.heap.size + 1, 3, none⟩) (rfl) (.int .i64 u)).setCell (p := ⟨W.heap.size + 1, 4, none⟩) (rfl) (.int .i64 n))
          have hO : But2 v10 _ (W.heap.size + 1) := ⟨hoff.size, fun k hk hne => hoff.block k hk hne, fun C hC hCw => hoff.below hCw (fun k hk => by rw [hk]; exact hC)⟩
          have hbf := HB0.out.trans (hHeld.mono (Nat.le_succ _))
          have hs := hS0.out
          exact ⟨xa, xc, ya, yc, za, zc, rfl, LRow.mv2 HM0.out hO (fun k hk => by have h1 := HQ0.out k hk; omega), LRow.mv2 HM1.out hO (fun k hk => by have h1 := HQ1.out k hk; omega), LRow.mv2 HM2.out hO (fun k hk => by have h1 := HQ2.out k hk; omega), fun k hk => ⟨fun h2 => HN01.out k hk h2, fun h2 => HN02.out k hk h2⟩, fun k hk h2 => HN12.out k hk h2, hbf⟩
      · skip
        go_simp
        obtain ⟨v12, hw⟩ : ∃ w', w' = v2.alloc (.cells #[] 48) := ⟨_, rfl⟩
        have hO : But2 v2 v12 v2.heap.size := by rw [hw]; exact But2.alloc _ _
        have hle0 : w0.heap.size ≤ v2.heap.size := hHeld.size
        have hlt0 : v2.heap.size < v12.heap.size := by rw [hw]; simp
        have hrow : LRow v12 W.heap.size (.slice (some ⟨v2.heap.size, 0, none⟩) 0 0) [] := by rw [hw]; exact (FRow.made _ _ v2 _).lower (by have := hS0.out; show W.heap.size ≤ v2.heap.size; omega)
        have HX02 := Lib.hid (show ∀ k, (Value.slice xa P.length xc).ownBlock = some k → k ≠ v2.heap.size from fun k hk => Nat.ne_of_lt (HQ0.out k hk).2.1)
        have HR := Lib.hid (hO.blk HR.out (by have := hS0.out; omega))
        have HM0 := Lib.hid (LRow.mv2 HM0.out hO (fun k hk => HX02.out k hk))
        have HQ0 := Lib.hid (HQ0.out.mono hO.1)
        have HM2 := Lib.hid hrow
        have HQ2 := Lib.hid (own_mk v2.heap.size 0 hle0 hlt0)
        have HSZ2 := Lib.hid hlt0
        have hbs := hO.2.2 (W.heap.size + 1) (by have := hS0.out; omega) (by have := hS0.out; show _ ≤ v2.heap.size; omega)
        rw [← hw]
        clear hw hrow hlt0
        refine hK.out _ _ (hHeld.trans hbs) (fun hHeld => ?_)
        clear hO hle0 hbs
        clear hK K
        refine rd1 4 (fun K hK => ?_)
        go_simp
        obtain ⟨v13, hw⟩ : ∃ w', w' = v12.alloc (.cells #[] 48) := ⟨_, rfl⟩
        have hO : But2 v12 v13 v12.heap.size := by rw [hw]; exact But2.alloc _ _
        have hle0 : w0.heap.size ≤ v12.heap.size := hHeld.size
        have hlt0 : v12.heap.size < v13.heap.size := by rw [hw]; simp
        have hrow : LRow v13 W.heap.size (.slice (some ⟨v12.heap.size, 0, none⟩) 0 0) [] := by rw [hw]; exact (FRow.made _ _ v12 _).lower (by have := hS0.out; show W.heap.size ≤ v12.heap.size; omega)
        have HX01 := Lib.hid (show ∀ k, (Value.slice xa P.length xc).ownBlock = some k → k ≠ v12.heap.size from fun k hk => Nat.ne_of_lt (HQ0.out k hk).2.1)
        have HX21 := Lib.hid (show ∀ k, (Value.slice (some ⟨v2.heap.size, 0, none⟩) 0 0).ownBlock = some k → k ≠ v12.heap.size from fun k hk => Nat.ne_of_lt (HQ2.out k hk).2.1)
        have HX12 := Lib.hid (show ∀ k, (Value.slice (some ⟨v12.heap.size, 0, none⟩) 0 0).ownBlock = some k → k ≠ v2.heap.size from fun k hk => by cases hk; exact Nat.ne_of_gt HSZ2.out)
        have HR := Lib.hid (hO.blk HR.out (by have := hS0.out; omega))
        have HM0 := Lib.hid (LRow.mv2 HM0.out hO (fun k hk => HX01.out k hk))
        have HQ0 := Lib.hid (HQ0.out.mono hO.1)
        have HM2 := Lib.hid (LRow.mv2 HM2.out hO (fun k hk => HX21.out k hk))
        have HQ2 := Lib.hid (HQ2.out.mono hO.1)
        have HSZ2 := Lib.hid (Nat.lt_of_lt_of_le HSZ2.out hO.1)
        have HM1 := Lib.hid hrow
        have HQ1 := Lib.hid (own_mk v12.heap.size 0 hle0 hlt0)
        have HSZ1 := Lib.hid hlt0
        have hbs := hO.2.2 (W.heap.size + 1) (by have := hS0.out; omega) (by have := hS0.out; show _ ≤ v12.heap.size; omega)
        rw [← hw]
        clear hw hrow hlt0
        refine hK.out _ _ (hHeld.trans hbs) (fun hHeld => ?_)
        clear hO hle0 hbs
        clear hK K
        refine rd1 7 (fun K hK => ?_)
        have hq := HQ1.out _ rfl
        obtain ⟨ya, yc, v14, hr, hrow, hO, hown⟩ := LRow.grow HM1.out (g := v12.heap.size) (fun k hk => (HQ1.out k hk).2.2) hq.2.1 ((HBB.out.below R_Letter_ok (HB0.out.trans (hHeld.mono (Nat.le_succ _)))).more R_Letter_ok (HB0.out.trans (hHeld.mono (Nat.le_succ _))).size) (by have := hS0.out; have := hq.1; omega) (by have := hlen.2.1; simp only [List.length_nil]; omega)
        simp only [List.nil_append, List.length_nil] at hr hrow hown
        have HRUN := Lib.hid hr
        clear hr
        have HN01 := Lib.hid (show ∀ k, (Value.slice xa P.length xc).ownBlock = some k → (Value.slice ya B.length yc).ownBlock = some k → False from fun k hk h2 => by rcases hown k h2 with e | e; exact HX01.out k hk e; (have h1 := (HQ0.out k hk).2.1; omega))
        have HX12 := Lib.hid (show ∀ k, (Value.slice ya B.length yc).ownBlock = some k → k ≠ v2.heap.size from fun k hk e => by rcases hown k hk with e2 | e2; (have h1 := HX12.out _ rfl; omega); (have h3 := HSZ2.out; omega))
        have HR := Lib.hid (hO.blk HR.out (by have := hS0.out; have := hq.1; omega))
        have HM0 := Lib.hid (LRow.mv2 HM0.out hO (fun k hk => HX01.out k hk))
        have HQ0 := Lib.hid (HQ0.out.mono hO.1)
        have HM2 := Lib.hid (LRow.mv2 HM2.out hO (fun k hk => HX21.out k hk))
        have HQ2 := Lib.hid (HQ2.out.mono hO.1)
        have HM1 := Lib.hid hrow
        have HQ1 := Lib.hid (show Own (Value.slice ya B.length yc) w0.heap.size v14.heap.size (fun _ => True) from fun k hk => ⟨by rcases hown k hk with e | e; (have := hq.1; omega); (have := hHeld.size; exact Nat.le_trans this e), (hrow.blk k hk).2, trivial⟩)
        have HSZ2 := Lib.hid (Nat.lt_of_lt_of_le HSZ2.out hO.1)
        have hbs := hO.2.2 (W.heap.size + 1) (by have := hS0.out; have := hq.1; omega) (by have := hS0.out; have := hHeld.size; omega)
        clear hq hrow hown hO
        refine step_app rfl (.tmp 7) (.tmp 9) 23 rfl rfl rfl HRUN.out ?_
        refine hK.out _ _ (hHeld.trans hbs) (fun hHeld => ?_)
        clear hbs HRUN
        clear hK K
        refine rd1 11 (fun K hK => ?_)
        have hq := HQ2.out _ rfl
        obtain ⟨za, zc, v15, hr, hrow, hO, hown⟩ := LRow.grow HM2.out (g := v2.heap.size) (fun k hk => (HQ2.out k hk).2.2) hq.2.1 ((HA.out.below R_Letter_ok (HB0.out.trans (hHeld.mono (Nat.le_succ _)))).more R_Letter_ok (HB0.out.trans (hHeld.mono (Nat.le_succ _))).size) (by have := hS0.out; have := hq.1; omega) (by have := hlen.2.2; simp only [List.length_nil]; omega)
        simp only [List.nil_append, List.length_nil] at hr hrow hown
        have HRUN := Lib.hid hr
        clear hr
        have HN02 := Lib.hid (show ∀ k, (Value.slice xa P.length xc).ownBlock = some k → (Value.slice za A.length zc).ownBlock = some k → False from fun k hk h2 => by rcases hown k h2 with e | e; exact HX02.out k hk e; (have h1 := (HQ0.out k hk).2.1; omega))
        have HN12 := Lib.hid (show ∀ k, (Value.slice ya B.length yc).ownBlock = some k → (Value.slice za A.length zc).ownBlock = some k → False from fun k hk h2 => by rcases hown k h2 with e | e; exact HX12.out k hk e; (have h1 := (HQ1.out k hk).2.1; omega))
        have HR := Lib.hid (hO.blk HR.out (by have := hS0.out; have := hq.1; omega))
        have HM0 := Lib.hid (LRow.mv2 HM0.out hO (fun k hk => HX02.out k hk))
        have HQ0 := Lib.hid (HQ0.out.mono hO.1)
        have HM1 := Lib.hid (LRow.mv2 HM1.out hO (fun k hk => HX12.out k hk))
        have HQ1 := Lib.hid (HQ1.out.mono hO.1)
        have HM2 := Lib.hid hrow
        have HQ2 := Lib.hid (show Own (Value.slice za A.length zc) w0.heap.size v15.heap.size (fun _ => True) from fun k hk => ⟨by rcases hown k hk with e | e; (have := hq.1; omega); (have := hHeld.size; exact Nat.le_trans this e), (hrow.blk k hk).2, trivial⟩)
        have hbs := hO.2.2 (W.heap.size + 1) (by have := hS0.out; have := hq.1; omega) (by have := hS0.out; have := hHeld.size; omega)
        clear hq hrow hown hO
        refine step_app rfl (.tmp 11) (.tmp 13) 23 rfl rfl rfl HRUN.out ?_
        refine hK.out _ _ (hHeld.trans hbs) (fun hHeld => ?_)
        clear hbs HRUN
        clear hK K
        refine tk 16 hHeld ?_
        refine rd1 17 (fun K hK => ?_)
        have qHR_0 := HR.out.at_ 0 rfl
        have qHR_1 := HR.out.at_ 1 rfl
        have qHR_2 := HR.out.at_ 2 rfl
        have qHR_3 := HR.out.at_ 3 rfl
        have qHR_4 := HR.out.at_ 4 rfl
        have sHR_0 := HR.out.soft 0
        have sHR_1 := HR.out.soft 1
        have sHR_2 := HR.out.soft 2
        have sHR_3 := HR.out.soft 3
        have sHR_4 := HR.out.soft 4
        go_simp
        refine hK.out _ _ (((((hHeld.setCell (p := ⟨W.heap.size + 1, 0, none⟩) (Nat.le_refl _) (.slice xa P.length xc)).setCell (p := ⟨W.heap.size + 1, 1, none⟩) (Nat.le_refl _) (.slice ya B.length yc)).setCell (p := ⟨W.heap.size + 1, 2, none⟩) (Nat.le_refl _) (.slice za A.length zc)).setCell (p := ⟨W.heap.size + 1, 3, none⟩) (Nat.le_refl _) (.int .i64 u)).setCell (p := ⟨W.heap.size + 1, 4, none⟩) (Nat.le_refl _) (.int .i64 n)) (fun hHeld => ?_)
        clear qHR_0 sHR_0 qHR_1 sHR_1 qHR_2 sHR_2 qHR_3 sHR_3 qHR_4 sHR_4
        clear hK K
        refine rd0 ?_
        have qHR_0 := HR.out.at_ 0 rfl
        have qHR_1 := HR.out.at_ 1 rfl
        have qHR_2 := HR.out.at_ 2 rfl
        have qHR_3 := HR.out.at_ 3 rfl
        have qHR_4 := HR.out.at_ 4 rfl
        go_wp2
        refine bodyPost_ret (v := .agg #[.slice xa P.length xc, .slice ya B.length yc, .slice za A.length zc, .int .i64 u, .int .i64 n]) (by simp [results, Tryd.results28, go_sem, *]) rfl ?_
        have hoff := ((((((Off.refl (fun x => x = W.heap.size + 1) v15).setCell (p := ⟨W.heap.size + 1, 0, none⟩) (rfl) (.slice xa P.length xc)).setCell (p := ⟨W.heap.size + 1, 1, none⟩) (rfl) (.slice ya B.length yc)).setCell (p := ⟨W.heap.size + 1, 2, none⟩) (rfl) (.slice za A.length zc)).setCell (p := ⟨W.heap.size + 1, 3, none⟩) (rfl) (.int .i64 u)).setCell (p := ⟨W.heap.size + 1, 4, none⟩) (rfl) (.int .i64 n))
        have hO : But2 v15 _ (W.heap.size + 1) := ⟨hoff.size, fun k hk hne => hoff.block k hk hne, fun C hC hCw => hoff.below hCw (fun k hk => by rw [hk]; exact hC)⟩
        have hbf := HB0.out.trans (hHeld.mono (Nat.le_succ _))
        have hs := hS0.out
        exact ⟨xa, xc, ya, yc, za, zc, rfl, LRow.mv2 HM0.out hO (fun k hk => by have h1 := HQ0.out k hk; omega), LRow.mv2 HM1.out hO (fun k hk => by have h1 := HQ1.out k hk; omega), LRow.mv2 HM2.out hO (fun k hk => by have h1 := HQ2.out k hk; omega), fun k hk => ⟨fun h2 => HN01.out k hk h2, fun h2 => HN02.out k hk h2⟩, fun k hk h2 => HN12.out k hk h2, hbf⟩
    · skip
      go_simp
      obtain ⟨v17, hw⟩ : ∃ w', w' = v1.alloc (.cells #[] 48) := ⟨_, rfl⟩
      have hO : But2 v1 v17 v1.heap.size := by rw [hw]; exact But2.alloc _ _
      have hle0 : w0.heap.size ≤ v1.heap.size := hHeld.size
      have hlt0 : v1.heap.size < v17.heap.size := by rw [hw]; simp
      have hrow : LRow v17 W.heap.size (.slice (some ⟨v1.heap.size, 0, none⟩) 0 0) [] := by rw [hw]; exact (FRow.made _ _ v1 _).lower (by have := hS0.out; show W.heap.size ≤ v1.heap.size; omega)
      have HX01 := Lib.hid (show ∀ k, (Value.slice (some ⟨wd.heap.size, 0, none⟩) 0 0).ownBlock = some k → k ≠ v1.heap.size from fun k hk => Nat.ne_of_lt (HQ0.out k hk).2.1)
      have HX10 := Lib.hid (show ∀ k, (Value.slice (some ⟨v1.heap.size, 0, none⟩) 0 0).ownBlock = some k → k ≠ wd.heap.size from fun k hk => by cases hk; exact Nat.ne_of_gt HSZ0.out)
      have HR := Lib.hid (hO.blk HR.out (by have := hS0.out; omega))
      have HM0 := Lib.hid (LRow.mv2 HM0.out hO (fun k hk => HX01.out k hk))
      have HQ0 := Lib.hid (HQ0.out.mono hO.1)
      have HSZ0 := Lib.hid (Nat.lt_of_lt_of_le HSZ0.out hO.1)
      have HM1 := Lib.hid hrow
      have HQ1 := Lib.hid (own_mk v1.heap.size 0 hle0 hlt0)
      have HSZ1 := Lib.hid hlt0
      have hbs := hO.2.2 (W.heap.size + 1) (by have := hS0.out; omega) (by have := hS0.out; show _ ≤ v1.heap.size; omega)
      rw [← hw]
      clear hw hrow hlt0
      refine hK.out _ _ (hHeld.trans hbs) (fun hHeld => ?_)
      clear hO hle0 hbs
      clear hK K
      refine rd2 3 8 (fun K hK => ?_) (fun K hK => ?_)
      · skip
        have hq := HQ0.out _ rfl
        obtain ⟨xa, xc, v18, hr, hrow, hO, hown⟩ := LRow.grow HM0.out (g := wd.heap.size) (fun k hk => (HQ0.out k hk).2.2) hq.2.1 ((HP.out.below R_Letter_ok (HB0.out.trans (hHeld.mono (Nat.le_succ _)))).more R_Letter_ok (HB0.out.trans (hHeld.mono (Nat.le_succ _))).size) (by have := hS0.out; have := hq.1; omega) (by have := hlen.1; simp only [List.length_nil]; omega)
        simp only [List.nil_append, List.length_nil] at hr hrow hown
        have HRUN := Lib.hid hr
        clear hr
        have HX01 := Lib.hid (show ∀ k, (Value.slice xa P.length xc).ownBlock = some k → k ≠ v1.heap.size from fun k hk e => by rcases hown k hk with e2 | e2; (have h1 := HX01.out _ rfl; omega); (have h3 := HSZ1.out; omega))
        have HR := Lib.hid (hO.blk HR.out (by have := hS0.out; have := hq.1; omega))
        have HM1 := Lib.hid (LRow.mv2 HM1.out hO (fun k hk => HX10.out k hk))
        have HQ1 := Lib.hid (HQ1.out.mono hO.1)
        have HM0 := Lib.hid hrow
        have HQ0 := Lib.hid (show Own (Value.slice xa P.length xc) w0.heap.size v18.heap.size (fun _ => True) from fun k hk => ⟨by rcases hown k hk with e | e; (have := hq.1; omega); (have := hHeld.size; exact Nat.le_trans this e), (hrow.blk k hk).2, trivial⟩)
        have HSZ1 := Lib.hid (Nat.lt_of_lt_of_le HSZ1.out hO.1)
        have hbs := hO.2.2 (W.heap.size + 1) (by have := hS0.out; have := hq.1; omega) (by have := hS0.out; have := hHeld.size; omega)
        clear hq hrow hown hO
        refine step_app rfl (.tmp 3) (.tmp 5) 23 rfl rfl rfl HRUN.out ?_
        refine hK.out _ _ (hHeld.trans hbs) (fun hHeld => ?_)
        clear hbs HRUN
        clear hK K
        refine rd2 7 8 (fun K hK => ?_) (fun K hK => ?_)
        · skip
          have hq := HQ1.out _ rfl
          obtain ⟨ya, yc, v19, hr, hrow, hO, hown⟩ := LRow.grow HM1.out (g := v1.heap.size) (fun k hk => (HQ1.out k hk).2.2) hq.2.1 ((HBB.out.below R_Letter_ok (HB0.out.trans (hHeld.mono (Nat.le_succ _)))).more R_Letter_ok (HB0.out.trans (hHeld.mono (Nat.le_succ _))).size) (by have := hS0.out; have := hq.1; omega) (by have := hlen.2.1; simp only [List.length_nil]; omega)
          simp only [List.nil_append, List.length_nil] at hr hrow hown
          have HRUN := Lib.hid hr
          clear hr
          have HN01 := Lib.hid (show ∀ k, (Value.slice xa P.length xc).ownBlock = some k → (Value.slice ya B.length yc).ownBlock = some k → False from fun k hk h2 => by rcases hown k h2 with e | e; exact HX01.out k hk e; (have h1 := (HQ0.out k hk).2.1; omega))
          have HR := Lib.hid (hO.blk HR.out (by have := hS0.out; have := hq.1; omega))
          have HM0 := Lib.hid (LRow.mv2 HM0.out hO (fun k hk => HX01.out k hk))
          have HQ0 := Lib.hid (HQ0.out.mono hO.1)
          have HM1 := Lib.hid hrow
          have HQ1 := Lib.hid (show Own (Value.slice ya B.length yc) w0.heap.size v19.heap.size (fun _ => True) from fun k hk => ⟨by rcases hown k hk with e | e; (have := hq.1; omega); (have := hHeld.size; exact Nat.le_trans this e), (hrow.blk k hk).2, trivial⟩)
          have hbs := hO.2.2 (W.heap.size + 1) (by have := hS0.out; have := hq.1; omega) (by have := hS0.out; have := hHeld.size; omega)
          clear hq hrow hown hO
          refine step_app rfl (.tmp 7) (.tmp 9) 23 rfl rfl rfl HRUN.out ?_
          refine hK.out _ _ (hHeld.trans hbs) (fun hHeld => ?_)
          clear hbs HRUN
          clear hK K
          refine rd1 8 (fun K hK => ?_)
          go_simp
          obtain ⟨v20, hw⟩ : ∃ w', w' = v19.alloc (.cells #[] 48) := ⟨_, rfl⟩
          have hO : But2 v19 v20 v19.heap.size := by rw [hw]; exact But2.alloc _ _
          have hle0 : w0.heap.size ≤ v19.heap.size := hHeld.size
          have hlt0 : v19.heap.size < v20.heap.size := by rw [hw]; simp
          have hrow : LRow v20 W.heap.size (.slice (some ⟨v19.heap.size, 0, none⟩) 0 0) [] := by rw [hw]; exact (FRow.made _ _ v19 _).lower (by have := hS0.out; show W.heap.size ≤ v19.heap.size; omega)
          have HX02 := Lib.hid (show ∀ k, (Value.slice xa P.length xc).ownBlock = some k → k ≠ v19.heap.size from fun k hk => Nat.ne_of_lt (HQ0.out k hk).2.1)
          have HX12 := Lib.hid (show ∀ k, (Value.slice ya B.length yc).ownBlock = some k → k ≠ v19.heap.size from fun k hk => Nat.ne_of_lt (HQ1.out k hk).2.1)
          have HR := Lib.hid (hO.blk HR.out (by have := hS0.out; omega))
          have HM0 := Lib.hid (LRow.mv2 HM0.out hO (fun k hk => HX02.out k hk))
          have HQ0 := Lib.hid (HQ0.out.mono hO.1)
          have HM1 := Lib.hid (LRow.mv2 HM1.out hO (fun k hk => HX12.out k hk))
          have HQ1 := Lib.hid (HQ1.out.mono hO.1)
          have HM2 := Lib.hid hrow
          have HQ2 := Lib.hid (own_mk v19.heap.size 0 hle0 hlt0)
          have HSZ2 := Lib.hid hlt0
          have hbs := hO.2.2 (W.heap.size + 1) (by have := hS0.out; omega) (by have := hS0.out; show _ ≤ v19.heap.size; omega)
          rw [← hw]
          clear hw hrow hlt0
          refine hK.out _ _ (hHeld.trans hbs) (fun hHeld => ?_)
          clear hO hle0 hbs
          clear hK K
          refine rd1 11 (fun K hK => ?_)
          have hq := HQ2.out _ rfl
          obtain ⟨za, zc, v21, hr, hrow, hO, hown⟩ := LRow.grow HM2.out (g := v19.heap.size) (fun k hk => (HQ2.out k hk).2.2) hq.2.1 ((HA.out.below R_Letter_ok (HB0.out.trans (hHeld.mono (Nat.le_succ _)))).more R_Letter_ok (HB0.out.trans (hHeld.mono (Nat.le_succ _))).size) (by have := hS0.out; have := hq.1; omega) (by have := hlen.2.2; simp only [List.length_nil]; omega)
          simp only [List.nil_append, List.length_nil] at hr hrow hown
          have HRUN := Lib.hid hr
          clear hr
          have HN02 := Lib.hid (show ∀ k, (Value.slice xa P.length xc).ownBlock = some k → (Value.slice za A.length zc).ownBlock = some k → False from fun k hk h2 => by rcases hown k h2 with e | e; exact HX02.out k hk e; (have h1 := (HQ0.out k hk).2.1; omega))
          have HN12 := Lib.hid (show ∀ k, (Value.slice ya B.length yc).ownBlock = some k → (Value.slice za A.length zc).ownBlock = some k → False from fun k hk h2 => by rcases hown k h2 with e | e; exact HX12.out k hk e; (have h1 := (HQ1.out k hk).2.1; omega))
          have HR := Lib.hid (hO.blk HR.out (by have := hS0.out; have := hq.1; omega))
          have HM0 := Lib.hid (LRow.mv2 HM0.out hO (fun k hk => HX02.out k hk))
          have HQ0 := Lib.hid (HQ0.out.mono hO.1)
          have HM1 := Lib.hid (LRow.mv2 HM1.out hO (fun k hk => HX12.out k hk))
          have HQ1 := Lib.hid (HQ1.out.mono hO.1)
          have HM2 := Lib.hid hrow
          have HQ2 := Lib.hid (show Own (Value.slice za A.length zc) w0.heap.size v21.heap.size (fun _ => True) from fun k hk => ⟨by rcases hown k hk with e | e; (have := hq.1; omega); (have := hHeld.size; exact Nat.le_trans this e), (hrow.blk k hk).2, trivial⟩)
          have hbs := hO.2.2 (W.heap.size + 1) (by have := hS0.out; have := hq.1; omega) (by have := hS0.out; have := hHeld.size; omega)
          clear hq hrow hown hO
          refine step_app rfl (.tmp 11) (.tmp 13) 23 rfl rfl rfl HRUN.out ?_
          refine hK.out _ _ (hHeld.trans hbs) (fun hHeld => ?_)
          clear hbs HRUN
          clear hK K
          refine tk 16 hHeld ?_
          refine rd1 17 (fun K hK => ?_)
          have qHR_0 := HR.out.at_ 0 rfl
          have qHR_1 := HR.out.at_ 1 rfl
          have qHR_2 := HR.out.at_ 2 rfl
          have qHR_3 := HR.out.at_ 3 rfl
          have qHR_4 := HR.out.at_ 4 rfl
          have sHR_0 := HR.out.soft 0
          have sHR_1 := HR.out.soft 1
          have sHR_2 := HR.out.soft 2
          have sHR_3 := HR.out.soft 3
          have sHR_4 := HR.out.soft 4
          go_simp
          refine hK.out _ _ (((((hHeld.setCell (p := ⟨W.heap.size + 1, 0, none⟩) (Nat.le_refl _) (.slice xa P.length xc)).setCell (p := ⟨W.heap.size + 1, 1, none⟩) (Nat.le_refl _) (.slice ya B.length yc)).setCell (p := ⟨W.heap.size + 1, 2, none⟩) (Nat.le_refl _) (.slice za A.length zc)).setCell (p := ⟨W.heap.size + 1, 3, none⟩) (Nat.le_refl _) (.int .i64 u)).setCell (p := ⟨W.heap.size + 1, 4, none⟩) (Nat.le_refl _) (.int .i64 n)) (fun hHeld => ?_)
          clear qHR_0 sHR_0 qHR_1 sHR_1 qHR_2 sHR_2 qHR_3 sHR_3 qHR_4 sHR_4
          clear hK K
          refine rd0 ?_
          have qHR_0 := HR.out.at_ 0 rfl
          have qHR_1 := HR.out.at_ 1 rfl
          have qHR_2 := HR.out.at_ 2 rfl
          have qHR_3 := HR.out.at_ 3 rfl
          have qHR_4 := HR.out.at_ 4 rfl
          go_wp2
          refine bodyPost_ret (v := .agg #[.slice xa P.length xc, .slice ya B.length yc, .slice za A.length zc, .int .i64 u, .int .i64 n]) (by simp [results, Tryd.results28, go_sem, *]) rfl ?_
          have hoff := ((((((Off.refl (fun x => x = W.heap.size + 1) v21).setCell (p := ⟨W.heap.size + 1, 0, none⟩) (rfl) (.slice xa P.length xc)).setCell (p := ⟨W.heap.size + 1, 1, none⟩) (rfl) (.slice ya B.length yc)).setCell (p := ⟨W.heap.size + 1, 2, none⟩) (rfl) (.slice za A.length zc)).setCell (p := ⟨W.heap.size + 1, 3, none⟩) (rfl) (.int .i64 u)).setCell (p := ⟨W.heap.size + 1, 4, none⟩) (rfl) (.int .i64 n))
          have hO : But2 v21 _ (W.heap.size + 1) := ⟨hoff.size, fun k hk hne => hoff.block k hk hne, fun C hC hCw => hoff.below hCw (fun k hk => by rw [hk]; exact hC)⟩
          have hbf := HB0.out.trans (hHeld.mono (Nat.le_succ _))
          have hs := hS0.out
          exact ⟨xa, xc, ya, yc, za, zc, rfl, LRow.mv2 HM0.out hO (fun k hk => by have h1 := HQ0.out k hk; omega), LRow.mv2 HM1.out hO (fun k hk => by have h1 := HQ1.out k hk; omega), LRow.mv2 HM2.out hO (fun k hk => by have h1 := HQ2.out k hk; omega), fun k hk => ⟨fun h2 => HN01.out k hk h2, fun h2 => HN02.out k hk h2⟩, fun k hk h2 => HN12.out k hk h2, hbf⟩
        · skip
          go_simp
          obtain ⟨v23, hw⟩ : ∃ w', w' = v18.alloc (.cells #[] 48) := ⟨_, rfl⟩
          have hO : But2 v18 v23 v18.heap.size := by rw [hw]; exact But2.alloc _ _
          have hle0 : w0.heap.size ≤ v18.heap.size := hHeld.size
          have hlt0 : v18.heap.size < v23.heap.size := by rw [hw]; simp
          have hrow : LRow v23 W.heap.size (.slice (some ⟨v18.heap.size, 0, none⟩) 0 0) [] := by rw [hw]; exact (FRow.made _ _ v18 _).lower (by have := hS0.out; show W.heap.size ≤ v18.heap.size; omega)
          have HX02 := Lib.hid (show ∀ k, (Value.slice xa P.length xc).ownBlock = some k → k ≠ v18.heap.size from fun k hk => Nat.ne_of_lt (HQ0.out k hk).2.1)
          have HX12 := Lib.hid (show ∀ k, (Value.slice (some ⟨v1.heap.size, 0, none⟩) 0 0).ownBlock = some k → k ≠ v18.heap.size from fun k hk => Nat.ne_of_lt (HQ1.out k hk).2.1)
          have HX21 := Lib.hid (show ∀ k, (Value.slice (some ⟨v18.heap.size, 0, none⟩) 0 0).ownBlock = some k → k ≠ v1.heap.size from fun k hk => by cases hk; exact Nat.ne_of_gt HSZ1.out)
          have HR := Lib.hid (hO.blk HR.out (by have := hS0.out; omega))
          have HM0 := Lib.hid (LRow.mv2 HM0.out hO (fun k hk => HX02.out k hk))
          have HQ0 := Lib.hid (HQ0.out.mono hO.1)
          have HM1 := Lib.hid (LRow.mv2 HM1.out hO (fun k hk => HX12.out k hk))
          have HQ1 := Lib.hid (HQ1.out.mono hO.1)
          have HSZ1 := Lib.hid (Nat.lt_of_lt_of_le HSZ1.out hO.1)
          have HM2 := Lib.hid hrow
          have HQ2 := Lib.hid (own_mk v18.heap.size 0 hle0 hlt0)
          have HSZ2 := Lib.hid hlt0
          have hbs := hO.2.2 (W.heap.size + 1) (by have := hS0.out; omega) (by have := hS0.out; show _ ≤ v18.heap.size; omega)
          rw [← hw]
          clear hw hrow hlt0
          refine hK.out _ _ (hHeld.trans hbs) (fun hHeld => ?_)
          clear hO hle0 hbs
          clear hK K
          refine rd1 7 (fun K hK => ?_)
          have hq := HQ1.out _ rfl
          obtain ⟨ya, yc, v24, hr, hrow, hO, hown⟩ := LRow.grow HM1.out (g := v1.heap.size) (fun k hk => (HQ1.out k hk).2.2) hq.2.1 ((HBB.out.below R_Letter_ok (HB0.out.trans (hHeld.mono (Nat.le_succ _)))).more R_Letter_ok (HB0.out.trans (hHeld.mono (Nat.le_succ _))).size) (by have := hS0.out; have := hq.1; omega) (by have := hlen.2.1; simp only [List.length_nil]; omega)
          simp only [List.nil_append, List.length_nil] at hr hrow hown
          have HRUN := Lib.hid hr
          clear hr
          have HN01 := Lib.hid (show ∀ k, (Value.slice xa P.length xc).ownBlock = some k → (Value.slice ya B.length yc).ownBlock = some k → False from fun k hk h2 => by rcases hown k h2 with e | e; exact HX01.out k hk e; (have h1 := (HQ0.out k hk).2.1; omega))
          have HX12 := Lib.hid (show ∀ k, (Value.slice ya B.length yc).ownBlock = some k → k ≠ v18.heap.size from fun k hk e => by rcases hown k hk with e2 | e2; (have h1 := HX12.out _ rfl; omega); (have h3 := HSZ2.out; omega))
          have HR := Lib.hid (hO.blk HR.out (by have := hS0.out; have := hq.1; omega))
          have HM0 := Lib.hid (LRow.mv2 HM0.out hO (fun k hk => HX01.out k hk))
          have HQ0 := Lib.hid (HQ0.out.mono hO.1)
          have HM2 := Lib.hid (LRow.mv2 HM2.out hO (fun k hk => HX21.out k hk))
          have HQ2 := Lib.hid (HQ2.out.mono hO.1)
          have HM1 := Lib.hid hrow
          have HQ1 := Lib.hid (show Own (Value.slice ya B.length yc) w0.heap.size v24.heap.size (fun _ => True) from fun k hk => ⟨by rcases hown k hk with e | e; (have := hq.1; omega); (have := hHeld.size; exact Nat.le_trans this e), (hrow.blk k hk).2, trivial⟩)
          have HSZ2 := Lib.hid (Nat.lt_of_lt_of_le HSZ2.out hO.1)
          have hbs := hO.2.2 (W.heap.size + 1) (by have := hS0.out; have := hq.1; omega) (by have := hS0.out; have := hHeld.size; omega)
          clear hq hrow hown hO
          refine step_app rfl (.tmp 7) (.tmp 9) 23 rfl rfl rfl HRUN.out ?_
          refine hK.out _ _ (hHeld.trans hbs) (fun hHeld => ?_)
          clear hbs HRUN
          clear hK K
          refine rd1 11 (fun K hK => ?_)
          have hq := HQ2.out _ rfl
          obtain ⟨za, zc, v25, hr, hrow, hO, hown⟩ := LRow.grow HM2.out (g := v18.heap.size) (fun k hk => (HQ2.out k hk).2.2) hq.2.1 ((HA.out.below R_Letter_ok (HB0.out.trans (hHeld.mono (Nat.le_succ _)))).more R_Letter_ok (HB0.out.trans (hHeld.mono (Nat.le_succ _))).size) (by have := hS0.out; have := hq.1; omega) (by have := hlen.2.2; simp only [List.length_nil]; omega)
          simp only [List.nil_append, List.length_nil] at hr hrow hown
          have HRUN := Lib.hid hr
          clear hr
          have HN02 := Lib.hid (show ∀ k, (Value.slice xa P.length xc).ownBlock = some k → (Value.slice za A.length zc).ownBlock = some k → False from fun k hk h2 => by rcases hown k h2 with e | e; exact HX02.out k hk e; (have h1 := (HQ0.out k hk).2.1; omega))
          have HN12 := Lib.hid (show ∀ k, (Value.slice ya B.length yc).ownBlock = some k → (Value.slice za A.length zc).ownBlock = some k → False from fun k hk h2 => by rcases hown k h2 with e | e; exact HX12.out k hk e; (have h1 := (HQ1.out k hk).2.1; omega))
          have HR := Lib.hid (hO.blk HR.out (by have := hS0.out; have := hq.1; omega))
          have HM0 := Lib.hid (LRow.mv2 HM0.out hO (fun k hk => HX02.out k hk))
          have HQ0 := Lib.hid (HQ0.out.mono hO.1)
          have HM1 := Lib.hid (LRow.mv2 HM1.out hO (fun k hk => HX12.out k hk))
          have HQ1 := Lib.hid (HQ1.out.mono hO.1)
          have HM2 := Lib.hid hrow
          have HQ2 := Lib.hid (show Own (Value.slice za A.length zc) w0.heap.size v25.heap.size (fun _ => True) from fun k hk => ⟨by rcases hown k hk with e | e; (have := hq.1; omega); (have := hHeld.size; exact Nat.le_trans this e), (hrow.blk k hk).2, trivial⟩)
          have hbs := hO.2.2 (W.heap.size + 1) (by have := hS0.out; have := hq.1; omega) (by have := hS0.out; have := hHeld.size; omega)
          clear hq hrow hown hO
          refine step_app rfl (.tmp 11) (.tmp 13) 23 rfl rfl rfl HRUN.out ?_
          refine hK.out _ _ (hHeld.trans hbs) (fun hHeld => ?_)
          clear hbs HRUN
          clear hK K
          refine tk 16 hHeld ?_
          refine rd1 17 (fun K hK => ?_)
          have qHR_0 := HR.out.at_ 0 rfl
          have qHR_1 := HR.out.at_ 1 rfl
          have qHR_2 := HR.out.at_ 2 rfl
          have qHR_3 := HR.out.at_ 3 rfl
          have qHR_4 := HR.out.at_ 4 rfl
          have sHR_0 := HR.out.soft 0
          have sHR_1 := HR.out.soft 1
          have sHR_2 := HR.out.soft 2
          have sHR_3 := HR.out.soft 3
          have sHR_4 := HR.out.soft 4
          go_simp
          refine hK.out _ _ (((((hHeld.setCell (p := ⟨W.heap.size + 1, 0, none⟩) (Nat.le_refl _) (.slice xa P.length xc)).setCell (p := ⟨W.heap.size + 1, 1, none⟩) (Nat.le_refl _) (.slice ya B.length yc)).setCell (p := ⟨W.heap.size + 1, 2, none⟩) (Nat.le_refl _) (.slice za A.length zc)).setCell (p := ⟨W.heap.size + 1, 3, none⟩) (Nat.le_refl _) (.int .i64 u)).setCell (p := ⟨W.heap.size + 1, 4, none⟩) (Nat.le_refl _) (.int .i64 n)) (fun hHeld => ?_)
          clear qHR_0 sHR_0 qHR_1 sHR_1 qHR_2 sHR_2 qHR_3 sHR_3 qHR_4 sHR_4
          clear hK K
          refine rd0 ?_
          have qHR_0 := HR.out.at_ 0 rfl
          have qHR_1 := HR.out.at_ 1 rfl
          have qHR_2 := HR.out.at_ 2 rfl
          have qHR_3 := HR.out.at_ 3 rfl
          have qHR_4 := HR.out.at_ 4 rfl
          go_wp2
          refine bodyPost_ret (v := .agg #[.slice xa P.length xc, .slice ya B.length yc, .slice za A.length zc, .int .i64 u, .int .i64 n]) (by simp [results, Tryd.results28, go_sem, *]) rfl ?_
          have hoff := ((((((Off.refl (fun x => x = W.heap.size + 1) v25).setCell (p := ⟨W.heap.size + 1, 0, none⟩) (rfl) (.slice xa P.length xc)).setCell (p := ⟨W.heap.size + 1, 1, none⟩) (rfl) (.slice ya B.length yc)).setCell (p := ⟨W.heap.size + 1, 2, none⟩) (rfl) (.slice za A.length zc)).setCell (p := ⟨W.heap.size + 1, 3, none⟩) (rfl) (.int .i64 u)).setCell (p := ⟨W.heap.size + 1, 4, none⟩) (rfl) (.int .i64 n))
          have hO : But2 v25 _ (W.heap.size + 1) := ⟨hoff.size, fun k hk hne => hoff.block k hk hne, fun C hC hCw => hoff.below hCw (fun k hk => by rw [hk]; exact hC)⟩
          have hbf := HB0.out.trans (hHeld.mono (Nat.le_succ _))
          have hs := hS0.out
          exact ⟨xa, xc, ya, yc, za, zc, rfl, LRow.mv2 HM0.out hO (fun k hk => by have h1 := HQ0.out k hk; omega), LRow.mv2 HM1.out hO (fun k hk => by have h1 := HQ1.out k hk; omega), LRow.mv2 HM2.out hO (fun k hk => by have h1 := HQ2.out k hk; omega), fun k hk => ⟨fun h2 => HN01.out k hk h2, fun h2 => HN02.out k hk h2⟩, fun k hk h2 => HN12.out k hk h2, hbf⟩
      · skip
        go_simp
        obtain ⟨v27, hw⟩ : ∃ w', w' = v17.alloc (.cells #[] 48) := ⟨_, rfl⟩
        have hO : But2 v17 v27 v17.heap.size := by rw [hw]; exact But2.alloc _ _
        have hle0 : w0.heap.size ≤ v17.heap.size := hHeld.size
        have hlt0 : v17.heap.size < v27.heap.size := by rw [hw]; simp
        have hrow : LRow v27 W.heap.size (.slice (some ⟨v17.heap.size, 0, none⟩) 0 0) [] := by rw [hw]; exact (FRow.made _ _ v17 _).lower (by have := hS0.out; show W.heap.size ≤ v17.heap.size; omega)
        have HX02 := Lib.hid (show ∀ k, (Value.slice (some ⟨wd.heap.size, 0, none⟩) 0 0).ownBlock = some k → k ≠ v17.heap.size from fun k hk => Nat.ne_of_lt (HQ0.out k hk).2.1)
        have HX20 := Lib.hid (show ∀ k, (Value.slice (some ⟨v17.heap.size, 0, none⟩) 0 0).ownBlock = some k → k ≠ wd.heap.size from fun k hk => by cases hk; exact Nat.ne_of_gt HSZ0.out)
        have HX12 := Lib.hid (show ∀ k, (Value.slice (some ⟨v1.heap.size, 0, none⟩) 0 0).ownBlock = some k → k ≠ v17.heap.size from fun k hk => Nat.ne_of_lt (HQ1.out k hk).2.1)
        have HX21 := Lib.hid (show ∀ k, (Value.slice (some ⟨v17.heap.size, 0, none⟩) 0 0).ownBlock = some k → k ≠ v1.heap.size from fun k hk => by cases hk; exact Nat.ne_of_gt HSZ1.out)
        have HR := Lib.hid (hO.blk HR.out (by have := hS0.out; omega))
        have HM0 := Lib.hid (LRow.mv2 HM0.out hO (fun k hk => HX02.out k hk))
        have HQ0 := Lib.hid (HQ0.out.mono hO.1)
        have HSZ0 := Lib.hid (Nat.lt_of_lt_of_le HSZ0.out hO.1)
        have HM1 := Lib.hid (LRow.mv2 HM1.out hO (fun k hk => HX12.out k hk))
        have HQ1 := Lib.hid (HQ1.out.mono hO.1)
        have HSZ1 := Lib.hid (Nat.lt_of_lt_of_le HSZ1.out hO.1)
        have HM2 := Lib.hid hrow
        have HQ2 := Lib.hid (own_mk v17.heap.size 0 hle0 hlt0)
        have HSZ2 := Lib.hid hlt0
        have hbs := hO.2.2 (W.heap.size + 1) (by have := hS0.out; omega) (by have := hS0.out; show _ ≤ v17.heap.size; omega)
        rw [← hw]
        clear hw hrow hlt0
        refine hK.out _ _ (hHeld.trans hbs) (fun hHeld => ?_)
        clear hO hle0 hbs
        clear hK K
        refine rd1 3 (fun K hK => ?_)
        have hq := HQ0.out _ rfl
        obtain ⟨xa, xc, v28, hr, hrow, hO, hown⟩ := LRow.grow HM0.out (g := wd.heap.size) (fun k hk => (HQ0.out k hk).2.2) hq.2.1 ((HP.out.below R_Letter_ok (HB0.out.trans (hHeld.mono (Nat.le_succ _)))).more R_Letter_ok (HB0.out.trans (hHeld.mono (Nat.le_succ _))).size) (by have := hS0.out; have := hq.1; omega) (by have := hlen.1; simp only [List.length_nil]; omega)
        simp only [List.nil_append, List.length_nil] at hr hrow hown
        have HRUN := Lib.hid hr
        clear hr
        have HX01 := Lib.hid (show ∀ k, (Value.slice xa P.length xc).ownBlock = some k → k ≠ v1.heap.size from fun k hk e => by rcases hown k hk with e2 | e2; (have h1 := HX01.out _ rfl; omega); (have h3 := HSZ1.out; omega))
        have HX02 := Lib.hid (show ∀ k, (Value.slice xa P.length xc).ownBlock = some k → k ≠ v17.heap.size from fun k hk e => by rcases hown k hk with e2 | e2; (have h1 := HX02.out _ rfl; omega); (have h3 := HSZ2.out; omega))
        have HR := Lib.hid (hO.blk HR.out (by have := hS0.out; have := hq.1; omega))
        have HM1 := Lib.hid (LRow.mv2 HM1.out hO (fun k hk => HX10.out k hk))
        have HQ1 := Lib.hid (HQ1.out.mono hO.1)
        have HM2 := Lib.hid (LRow.mv2 HM2.out hO (fun k hk => HX20.out k hk))
        have HQ2 := Lib.hid (HQ2.out.mono hO.1)
        have HM0 := Lib.hid hrow
        have HQ0 := Lib.hid (show Own (Value.slice xa P.length xc) w0.heap.size v28.heap.size (fun _ => True) from fun k hk => ⟨by rcases hown k hk with e | e; (have := hq.1; omega); (have := hHeld.size; exact Nat.le_trans this e), (hrow.blk k hk).2, trivial⟩)
        have HSZ1 := Lib.hid (Nat.lt_of_lt_of_le HSZ1.out hO.1)
        have HSZ2 := Lib.hid (Nat.lt_of_lt_of_le HSZ2.out hO.1)
        have hbs := hO.2.2 (W.heap.size + 1) (by have := hS0.out; have := hq.1; omega) (by have := hS0.out; have := hHeld.size; omega)
        clear hq hrow hown hO
        refine step_app rfl (.tmp 3) (.tmp 5) 23 rfl rfl rfl HRUN.out ?_
        refine hK.out _ _ (hHeld.trans hbs) (fun hHeld => ?_)
        clear hbs HRUN
        clear hK K
        refine rd1 7 (fun K hK => ?_)
        have hq := HQ1.out _ rfl
        obtain ⟨ya, yc, v29, hr, hrow, hO, hown⟩ := LRow.grow HM1.out (g := v1.heap.size) (fun k hk => (HQ1.out k hk).2.2) hq.2.1 ((HBB.out.below R_Letter_ok (HB0.out.trans (hHeld.mono (Nat.le_succ _)))).more R_Letter_ok (HB0.out.trans (hHeld.mono (Nat.le_succ _))).size) (by have := hS0.out; have := hq.1; omega) (by have := hlen.2.1; simp only [List.length_nil]; omega)
        simp only [List.nil_append, List.length_nil] at hr hrow hown
        have HRUN := Lib.hid hr
        clear hr
        have HN01 := Lib.hid (show ∀ k, (Value.slice xa P.length xc).ownBlock = some k → (Value.slice ya B.length yc).ownBlock = some k → False from fun k hk h2 => by rcases hown k h2 with e | e; exact HX01.out k hk e; (have h1 := (HQ0.out k hk).2.1; omega))
        have HX12 := Lib.hid (show ∀ k, (Value.slice ya B.length yc).ownBlock = some k → k ≠ v17.heap.size from fun k hk e => by rcases hown k hk with e2 | e2; (have h1 := HX12.out _ rfl; omega); (have h3 := HSZ2.out; omega))
        have HR := Lib.hid (hO.blk HR.out (by have := hS0.out; have := hq.1; omega))
        have HM0 := Lib.hid (LRow.mv2 HM0.out hO (fun k hk => HX01.out k hk))
        have HQ0 := Lib.hid (HQ0.out.mono hO.1)
        have HM2 := Lib.hid (LRow.mv2 HM2.out hO (fun k hk => HX21.out k hk))
        have HQ2 := Lib.hid (HQ2.out.mono hO.1)
        have HM1 := Lib.hid hrow
        have HQ1 := Lib.hid (show Own (Value.slice ya B.length yc) w0.heap.size v29.heap.size (fun _ => True) from fun k hk => ⟨by rcases hown k hk with e | e; (have := hq.1; omega); (have := hHeld.size; exact Nat.le_trans this e), (hrow.blk k hk).2, trivial⟩)
        have HSZ2 := Lib.hid (Nat.lt_of_lt_of_le HSZ2.out hO.1)
        have hbs := hO.2.2 (W.heap.size + 1) (by have := hS0.out; have := hq.1; omega) (by have := hS0.out; have := hHeld.size; omega)
        clear hq hrow hown hO
        refine step_app rfl (.tmp 7) (.tmp 9) 23 rfl rfl rfl HRUN.out ?_
        refine hK.out _ _ (hHeld.trans hbs) (fun hHeld => ?_)
        clear hbs HRUN
        clear hK K
        refine rd1 11 (fun K hK => ?_)
        have hq := HQ2.out _ rfl
        obtain ⟨za, zc, v30, hr, hrow, hO, hown⟩ := LRow.grow HM2.out (g := v17.heap.size) (fun k hk => (HQ2.out k hk).2.2) hq.2.1 ((HA.out.below R_Letter_ok (HB0.out.trans (hHeld.mono (Nat.le_succ _)))).more R_Letter_ok (HB0.out.trans (hHeld.mono (Nat.le_succ _))).size) (by have := hS0.out; have := hq.1; omega) (by have := hlen.2.2; simp only [List.length_nil]; omega)
        simp only [List.nil_append, List.length_nil] at hr hrow hown
        have HRUN := Lib.hid hr
        clear hr
        have HN02 := Lib.hid (show ∀ k, (Value.slice xa P.length xc).ownBlock = some k → (Value.slice za A.length zc).ownBlock = some k → False from fun k hk h2 => by rcases hown k h2 with e | e; exact HX02.out k hk e; (have h1 := (HQ0.out k hk).2.1; omega))
        have HN12 := Lib.hid (show ∀ k, (Value.slice ya B.length yc).ownBlock = some k → (Value.slice za A.length zc).ownBlock = some k → False from fun k hk h2 => by rcases hown k h2 with e | e; exact HX12.out k hk e; (have h1 := (HQ1.out k hk).2.1; omega))
        have HR := Lib.hid (hO.blk HR.out (by have := hS0.out; have := hq.1; omega))
        have HM0 := Lib.hid (LRow.mv2 HM0.out hO (fun k hk => HX02.out k hk))
        have HQ0 := Lib.hid (HQ0.out.mono hO.1)
        have HM1 := Lib.hid (LRow.mv2 HM1.out hO (fun k hk => HX12.out k hk))
        have HQ1 := Lib.hid (HQ1.out.mono hO.1)
        have HM2 := Lib.hid hrow
        have HQ2 := Lib.hid (show Own (Value.slice za A.length zc) w0.heap.size v30.heap.size (fun _ => True) from fun k hk => ⟨by rcases hown k hk with e | e; (have := hq.1; omega); (have := hHeld.size; exact Nat.le_trans this e), (hrow.blk k hk).2, trivial⟩)
        have hbs := hO.2.2 (W.heap.size + 1) (by have := hS0.out; have := hq.1; omega) (by have := hS0.out; have := hHeld.size; omega)
        clear hq hrow hown hO
        refine step_app rfl (.tmp 11) (.tmp 13) 23 rfl rfl rfl HRUN.out ?_
        refine hK.out _ _ (hHeld.trans hbs) (fun hHeld => ?_)
        clear hbs HRUN
        clear hK K
        refine tk 16 hHeld ?_
        refine rd1 17 (fun K hK => ?_)
        have qHR_0 := HR.out.at_ 0 rfl
        have qHR_1 := HR.out.at_ 1 rfl
        have qHR_2 := HR.out.at_ 2 rfl
        have qHR_3 := HR.out.at_ 3 rfl
        have qHR_4 := HR.out.at_ 4 rfl
        have sHR_0 := HR.out.soft 0
        have sHR_1 := HR.out.soft 1
        have sHR_2 := HR.out.soft 2
        have sHR_3 := HR.out.soft 3
        have sHR_4 := HR.out.soft 4
        go_simp
        refine hK.out _ _ (((((hHeld.setCell (p := ⟨W.heap.size + 1, 0, none⟩) (Nat.le_refl _) (.slice xa P.length xc)).setCell (p := ⟨W.heap.size + 1, 1, none⟩) (Nat.le_refl _) (.slice ya B.length yc)).setCell (p := ⟨W.heap.size + 1, 2, none⟩) (Nat.le_refl _) (.slice za A.length zc)).setCell (p := ⟨W.heap.size + 1, 3, none⟩) (Nat.le_refl _) (.int .i64 u)).setCell (p := ⟨W.heap.size + 1, 4, none⟩) (Nat.le_refl _) (.int .i64 n)) (fun hHeld => ?_)
        clear qHR_0 sHR_0 qHR_1 sHR_1 qHR_2 sHR_2 qHR_3 sHR_3 qHR_4 sHR_4
        clear hK K
        refine rd0 ?_
        have qHR_0 := HR.out.at_ 0 rfl
        have qHR_1 := HR.out.at_ 1 rfl
        have qHR_2 := HR.out.at_ 2 rfl
        have qHR_3 := HR.out.at_ 3 rfl
        have qHR_4 := HR.out.at_ 4 rfl
        go_wp2
        refine bodyPost_ret (v := .agg #[.slice xa P.length xc, .slice ya B.length yc, .slice za A.length zc, .int .i64 u, .int .i64 n]) (by simp [results, Tryd.results28, go_sem, *]) rfl ?_
        have hoff := ((((((Off.refl (fun x => x = W.heap.size + 1) v30).setCell (p := ⟨W.heap.size + 1, 0, none⟩) (rfl) (.slice xa P.length xc)).setCell (p := ⟨W.heap.size + 1, 1, none⟩) (rfl) (.slice ya B.length yc)).setCell (p := ⟨W.heap.size + 1, 2, none⟩) (rfl) (.slice za A.length zc)).setCell (p := ⟨W.heap.size + 1, 3, none⟩) (rfl) (.int .i64 u)).setCell (p := ⟨W.heap.size + 1, 4, none⟩) (rfl) (.int .i64 n))
        have hO : But2 v30 _ (W.heap.size + 1) := ⟨hoff.size, fun k hk hne => hoff.block k hk hne, fun C hC hCw => hoff.below hCw (fun k hk => by rw [hk]; exact hC)⟩
        have hbf := HB0.out.trans (hHeld.mono (Nat.le_succ _))
        have hs := hS0.out
        exact ⟨xa, xc, ya, yc, za, zc, rfl, LRow.mv2 HM0.out hO (fun k hk => by have h1 := HQ0.out k hk; omega), LRow.mv2 HM1.out hO (fun k hk => by have h1 := HQ1.out k hk; omega), LRow.mv2 HM2.out hO (fun k hk => by have h1 := HQ2.out k hk; omega), fun k hk => ⟨fun h2 => HN01.out k hk h2, fun h2 => HN02.out k hk h2⟩, fun k hk h2 => HN12.out k hk h2, hbf⟩
    · skip
      go_simp
      obtain ⟨v32, hw⟩ : ∃ w', w' = v1.alloc (.cells #[] 48) := ⟨_, rfl⟩
      have hO : But2 v1 v32 v1.heap.size := by rw [hw]; exact But2.alloc _ _
      have hle0 : w0.heap.size ≤ v1.heap.size := hHeld.size
      have hlt0 : v1.heap.size < v32.heap.size := by rw [hw]; simp
      have hrow : LRow v32 W.heap.size (.slice (some ⟨v1.heap.size, 0, none⟩) 0 0) [] := by rw [hw]; exact (FRow.made _ _ v1 _).lower (by have := hS0.out; show W.heap.size ≤ v1.heap.size; omega)
      have HX02 := Lib.hid (show ∀ k, (Value.slice (some ⟨wd.heap.size, 0, none⟩) 0 0).ownBlock = some k → k ≠ v1.heap.size from fun k hk => Nat.ne_of_lt (HQ0.out k hk).2.1)
      have HX20 := Lib.hid (show ∀ k, (Value.slice (some ⟨v1.heap.size, 0, none⟩) 0 0).ownBlock = some k → k ≠ wd.heap.size from fun k hk => by cases hk; exact Nat.ne_of_gt HSZ0.out)
      have HR := Lib.hid (hO.blk HR.out (by have := hS0.out; omega))
      have HM0 := Lib.hid (LRow.mv2 HM0.out hO (fun k hk => HX02.out k hk))
      have HQ0 := Lib.hid (HQ0.out.mono hO.1)
      have HSZ0 := Lib.hid (Nat.lt_of_lt_of_le HSZ0.out hO.1)
      have HM2 := Lib.hid hrow
      have HQ2 := Lib.hid (own_mk v1.heap.size 0 hle0 hlt0)
      have HSZ2 := Lib.hid hlt0
      have hbs := hO.2.2 (W.heap.size + 1) (by have := hS0.out; omega) (by have := hS0.out; show _ ≤ v1.heap.size; omega)
      rw [← hw]
      clear hw hrow hlt0
      refine hK.out _ _ (hHeld.trans hbs) (fun hHeld => ?_)
      clear hO hle0 hbs
      clear hK K
      refine rd2 3 4 (fun K hK => ?_) (fun K hK => ?_)
      · skip
        have hq := HQ0.out _ rfl
        obtain ⟨xa, xc, v33, hr, hrow, hO, hown⟩ := LRow.grow HM0.out (g := wd.heap.size) (fun k hk => (HQ0.out k hk).2.2) hq.2.1 ((HP.out.below R_Letter_ok (HB0.out.trans (hHeld.mono (Nat.le_succ _)))).more R_Letter_ok (HB0.out.trans (hHeld.mono (Nat.le_succ _))).size) (by have := hS0.out; have := hq.1; omega) (by have := hlen.1; simp only [List.length_nil]; omega)
        simp only [List.nil_append, List.length_nil] at hr hrow hown
        have HRUN := Lib.hid hr
        clear hr
        have HX02 := Lib.hid (show ∀ k, (Value.slice xa P.length xc).ownBlock = some k → k ≠ v1.heap.size from fun k hk e => by rcases hown k hk with e2 | e2; (have h1 := HX02.out _ rfl; omega); (have h3 := HSZ2.out; omega))
        have HR := Lib.hid (hO.blk HR.out (by have := hS0.out; have := hq.1; omega))
        have HM2 := Lib.hid (LRow.mv2 HM2.out hO (fun k hk => HX20.out k hk))
        have HQ2 := Lib.hid (HQ2.out.mono hO.1)
        have HM0 := Lib.hid hrow
        have HQ0 := Lib.hid (show Own (Value.slice xa P.length xc) w0.heap.size v33.heap.size (fun _ => True) from fun k hk => ⟨by rcases hown k hk with e | e; (have := hq.1; omega); (have := hHeld.size; exact Nat.le_trans this e), (hrow.blk k hk).2, trivial⟩)
        have HSZ2 := Lib.hid (Nat.lt_of_lt_of_le HSZ2.out hO.1)
        have hbs := hO.2.2 (W.heap.size + 1) (by have := hS0.out; have := hq.1; omega) (by have := hS0.out; have := hHeld.size; omega)
        clear hq hrow hown hO
        refine step_app rfl (.tmp 3) (.tmp 5) 23 rfl rfl rfl HRUN.out ?_
        refine hK.out _ _ (hHeld.trans hbs) (fun hHeld => ?_)
        clear hbs HRUN
        clear hK K
        refine rd1 4 (fun K hK => ?_)
        go_simp
        obtain ⟨v34, hw⟩ : ∃ w', w' = v33.alloc (.cells #[] 48) := ⟨_, rfl⟩
        have hO : But2 v33 v34 v33.heap.size := by rw [hw]; exact But2.alloc _ _
        have hle0 : w0.heap.size ≤ v33.heap.size := hHeld.size
        have hlt0 : v33.heap.size < v34.heap.size := by rw [hw]; simp
        have hrow : LRow v34 W.heap.size (.slice (some ⟨v33.heap.size, 0, none⟩) 0 0) [] := by rw [hw]; exact (FRow.made _ _ v33 _).lower (by have := hS0.out; show W.heap.size ≤ v33.heap.size; omega)
        have HX01 := Lib.hid (show ∀ k, (Value.slice xa P.length xc).ownBlock = some k → k ≠ v33.heap.size from fun k hk => Nat.ne_of_lt (HQ0.out k hk).2.1)
        have HX21 := Lib.hid (show ∀ k, (Value.slice (some ⟨v1.heap.size, 0, none⟩) 0 0).ownBlock = some k → k ≠ v33.heap.size from fun k hk => Nat.ne_of_lt (HQ2.out k hk).2.1)
        have HX12 := Lib.hid (show ∀ k, (Value.slice (some ⟨v33.heap.size, 0, none⟩) 0 0).ownBlock = some k → k ≠ v1.heap.size from fun k hk => by cases hk; exact Nat.ne_of_gt HSZ2.out)
        have HR := Lib.hid (hO.blk HR.out (by have := hS0.out; omega))
        have HM0 := Lib.hid (LRow.mv2 HM0.out hO (fun k hk => HX01.out k hk))
        have HQ0 := Lib.hid (HQ0.out.mono hO.1)
        have HM2 := Lib.hid (LRow.mv2 HM2.out hO (fun k hk => HX21.out k hk))
        have HQ2 := Lib.hid (HQ2.out.mono hO.1)
        have HSZ2 := Lib.hid (Nat.lt_of_lt_of_le HSZ2.out hO.1)
        have HM1 := Lib.hid hrow
        have HQ1 := Lib.hid (own_mk v33.heap.size 0 hle0 hlt0)
        have HSZ1 := Lib.hid hlt0
        have hbs := hO.2.2 (W.heap.size + 1) (by have := hS0.out; omega) (by have := hS0.out; show _ ≤ v33.heap.size; omega)
        rw [← hw]
        clear hw hrow hlt0
        refine hK.out _ _ (hHeld.trans hbs) (fun hHeld => ?_)
        clear hO hle0 hbs
        clear hK K
        refine rd1 7 (fun K hK => ?_)
        have hq := HQ1.out _ rfl
        obtain ⟨ya, yc, v35, hr, hrow, hO, hown⟩ := LRow.grow HM1.out (g := v33.heap.size) (fun k hk => (HQ1.out k hk).2.2) hq.2.1 ((HBB.out.below R_Letter_ok (HB0.out.trans (hHeld.mono (Nat.le_succ _)))).more R_Letter_ok (HB0.out.trans (hHeld.mono (Nat.le_succ _))).size) (by have := hS0.out; have := hq.1; omega) (by have := hlen.2.1; simp only [List.length_nil]; omega)
        simp only [List.nil_append, List.length_nil] at hr hrow hown
        have HRUN := Lib.hid hr
        clear hr
        have HN01 := Lib.hid (show ∀ k, (Value.slice xa P.length xc).ownBlock = some k → (Value.slice ya B.length yc).ownBlock = some k → False from fun k hk h2 => by rcases hown k h2 with e | e; exact HX01.out k hk e; (have h1 := (HQ0.out k hk).2.1; omega))
        have HX12 := Lib.hid (show ∀ k, (Value.slice ya B.length yc).ownBlock = some k → k ≠ v1.heap.size from fun k hk e => by rcases hown k hk with e2 | e2; (have h1 := HX12.out _ rfl; omega); (have h3 := HSZ2.out; omega))
        have HR := Lib.hid (hO.blk HR.out (by have := hS0.out; have := hq.1; omega))
        have HM0 := Lib.hid (LRow.mv2 HM0.out hO (fun k hk => HX01.out k hk))
        have HQ0 := Lib.hid (HQ0.out.mono hO.1)
        have HM2 := Lib.hid (LRow.mv2 HM2.out hO (fun k hk => HX21.out k hk))
        have HQ2 := Lib.hid (HQ2.out.mono hO.1)
        have HM1 := Lib.hid hrow
        have HQ1 := Lib.hid (show Own (Value.slice ya B.length yc) w0.heap.size v35.heap.size (fun _ => True) from fun k hk => ⟨by rcases hown k hk with e | e; (have := hq.1; omega); (have := hHeld.size; exact Nat.le_trans this e), (hrow.blk k hk).2, trivial⟩)
        have HSZ2 := Lib.hid (Nat.lt_of_lt_of_le HSZ2.out hO.1)
        have hbs := hO.2.2 (W.heap.size + 1) (by have := hS0.out; have := hq.1; omega) (by have := hS0.out; have := hHeld.size; omega)
        clear hq hrow hown hO
        refine step_app rfl (.tmp 7) (.tmp 9) 23 rfl rfl rfl HRUN.out ?_
        refine hK.out _ _ (hHeld.trans hbs) (fun hHeld => ?_)
        clear hbs HRUN
        clear hK K
        refine rd1 11 (fun K hK => ?_)
        have hq := HQ2.out _ rfl
        obtain ⟨za, zc, v36, hr, hrow, hO, hown⟩ := LRow.grow HM2.out (g := v1.heap.size) (fun k hk => (HQ2.out k hk).2.2) hq.2.1 ((HA.out.below R_Letter_ok (HB0.out.trans (hHeld.mono (Nat.le_succ _)))).more R_Letter_ok (HB0.out.trans (hHeld.mono (Nat.le_succ _))).size) (by have := hS0.out; have := hq.1; omega) (by have := hlen.2.2; simp only [List.length_nil]; omega)
        simp only [List.nil_append, List.length_nil] at hr hrow hown
        have HRUN := Lib.hid hr
        clear hr
        have HN02 := Lib.hid (show ∀ k, (Value.slice xa P.length xc).ownBlock = some k → (Value.slice za A.length zc).ownBlock = some k → False from fun k hk h2 => by rcases hown k h2 with e | e; exact HX02.out k hk e; (have h1 := (HQ0.out k hk).2.1; omega))
        have HN12 := Lib.hid (show ∀ k, (Value.slice ya B.length yc).ownBlock = some k → (Value.slice za A.length zc).ownBlock = some k → False from fun k hk h2 => by rcases hown k h2 with e | e; exact HX12.out k hk e; (have h1 := (HQ1.out k hk).2.1; omega))
        have HR := Lib.hid (hO.blk HR.out (by have := hS0.out; have := hq.1; omega))
        have HM0 := Lib.hid (LRow.mv2 HM0.out hO (fun k hk => HX02.out k hk))
        have HQ0 := Lib.hid (HQ0.out.mono hO.1)
        have HM1 := Lib.hid (LRow.mv2 HM1.out hO (fun k hk => HX12.out k hk))
        have HQ1 := Lib.hid (HQ1.out.mono hO.1)
        have HM2 := Lib.hid hrow
        have HQ2 := Lib.hid (show Own (Value.slice za A.length zc) w0.heap.size v36.heap.size (fun _ => True) from fun k hk => ⟨by rcases hown k hk with e | e; (have := hq.1; omega); (have := hHeld.size; exact Nat.le_trans this e), (hrow.blk k hk).2, trivial⟩)
        have hbs := hO.2.2 (W.heap.size + 1) (by have := hS0.out; have := hq.1; omega) (by have := hS0.out; have := hHeld.size; omega)
        clear hq hrow hown hO
        refine step_app rfl (.tmp 11) (.tmp 13) 23 rfl rfl rfl HRUN.out ?_
        refine hK.out _ _ (hHeld.trans hbs) (fun hHeld => ?_)
        clear hbs HRUN
        clear hK K
        refine tk 16 hHeld ?_
        refine rd1 17 (fun K hK => ?_)
        have qHR_0 := HR.out.at_ 0 rfl
        have qHR_1 := HR.out.at_ 1 rfl
        have qHR_2 := HR.out.at_ 2 rfl
        have qHR_3 := HR.out.at_ 3 rfl
        have qHR_4 := HR.out.at_ 4 rfl
        have sHR_0 := HR.out.soft 0
        have sHR_1 := HR.out.soft 1
        have sHR_2 := HR.out.soft 2
        have sHR_3 := HR.out.soft 3
        have sHR_4 := HR.out.soft 4
        go_simp
        refine hK.out _ _ (((((hHeld.setCell (p := ⟨W.heap.size + 1, 0, none⟩) (Nat.le_refl _) (.slice xa P.length xc)).setCell (p := ⟨W.heap.size + 1, 1, none⟩) (Nat.le_refl _) (.slice ya B.length yc)).setCell (p := ⟨W.heap.size + 1, 2, none⟩) (Nat.le_refl _) (.slice za A.length zc)).setCell (p := ⟨W.heap.size + 1, 3, none⟩) (Nat.le_refl _) (.int .i64 u)).setCell (p := ⟨W.heap.size + 1, 4, none⟩) (Nat.le_refl _) (.int .i64 n)) (fun hHeld => ?_)
        clear qHR_0 sHR_0 qHR_1 sHR_1 qHR_2 sHR_2 qHR_3 sHR_3 qHR_4 sHR_4
        clear hK K
        refine rd0 ?_
        have qHR_0 := HR.out.at_ 0 rfl
        have qHR_1 := HR.out.at_ 1 rfl
        have qHR_2 := HR.out.at_ 2 rfl
        have qHR_3 := HR.out.at_ 3 rfl
        have qHR_4 := HR.out.at_ 4 rfl
        go_wp2
        refine bodyPost_ret (v := .agg #[.slice xa P.length xc, .slice ya B.length yc, .slice za A.length zc, .int .i64 u, .int .i64 n]) (by simp [results, Tryd.results28, go_sem, *]) rfl ?_
        have hoff := ((((((Off.refl (fun x => x = W.heap.size + 1) v36).setCell (p := ⟨W.heap.size + 1, 0, none⟩) (rfl) (.slice xa P.length xc)).setCell (p := ⟨W.heap.size + 1, 1, none⟩) (rfl) (.slice ya B.length yc)).setCell (p := ⟨W.heap.size + 1, 2, none⟩) (rfl) (.slice za A.length zc)).setCell (p := ⟨W.heap.size + 1, 3, none⟩) (rfl) (.int .i64 u)).setCell (p := ⟨W.heap.size + 1, 4, none⟩) (rfl) (.int .i64 n))
        have hO : But2 v36 _ (W.heap.size + 1) := ⟨hoff.size, fun k hk hne => hoff.block k hk hne, fun C hC hCw => hoff.below hCw (fun k hk => by rw [hk]; exact hC)⟩
        have hbf := HB0.out.trans (hHeld.mono (Nat.le_succ _))
        have hs := hS0.out
        exact ⟨xa, xc, ya, yc, za, zc, rfl, LRow.mv2 HM0.out hO (fun k hk => by have h1 := HQ0.out k hk; omega), LRow.mv2 HM1.out hO (fun k hk => by have h1 := HQ1.out k hk; omega), LRow.mv2 HM2.out hO (fun k hk => by have h1 := HQ2.out k hk; omega), fun k hk => ⟨fun h2 => HN01.out k hk h2, fun h2 => HN02.out k hk h2⟩, fun k hk h2 => HN12.out k hk h2, hbf⟩
      · skip
        go_simp
        obtain ⟨v38, hw⟩ : ∃ w', w' = v32.alloc (.cells #[] 48) := ⟨_, rfl⟩
        have hO : But2 v32 v38 v32.heap.size := by rw [hw]; exact But2.alloc _ _
        have hle0 : w0.heap.size ≤ v32.heap.size := hHeld.size
        have hlt0 : v32.heap.size < v38.heap.size := by rw [hw]; simp
        have hrow : LRow v38 W.heap.size (.slice (some ⟨v32.heap.size, 0, none⟩) 0 0) [] := by rw [hw]; exact (FRow.made _ _ v32 _).lower (by have := hS0.out; show W.heap.size ≤ v32.heap.size; omega)
        have HX01 := Lib.hid (show ∀ k, (Value.slice (some ⟨wd.heap.size, 0, none⟩) 0 0).ownBlock = some k → k ≠ v32.heap.size from fun k hk => Nat.ne_of_lt (HQ0.out k hk).2.1)
        have HX10 := Lib.hid (show ∀ k, (Value.slice (some ⟨v32.heap.size, 0, none⟩) 0 0).ownBlock = some k → k ≠ wd.heap.size from fun k hk => by cases hk; exact Nat.ne_of_gt HSZ0.out)
        have HX21 := Lib.hid (show ∀ k, (Value.slice (some ⟨v1.heap.size, 0, none⟩) 0 0).ownBlock = some k → k ≠ v32.heap.size from fun k hk => Nat.ne_of_lt (HQ2.out k hk).2.1)
        have HX12 := Lib.hid (show ∀ k, (Value.slice (some ⟨v32.heap.size, 0, none⟩) 0 0).ownBlock = some k → k ≠ v1.heap.size from fun k hk => by cases hk; exact Nat.ne_of_gt HSZ2.out)
        have HR := Lib.hid (hO.blk HR.out (by have := hS0.out; omega))
        have HM0 := Lib.hid (LRow.mv2 HM0.out hO (fun k hk => HX01.out k hk))
        have HQ0 := Lib.hid (HQ0.out.mono hO.1)
        have HSZ0 := Lib.hid (Nat.lt_of_lt_of_le HSZ0.out hO.1)
        have HM2 := Lib.hid (LRow.mv2 HM2.out hO (fun k hk => HX21.out k hk))
        have HQ2 := Lib.hid (HQ2.out.mono hO.1)
        have HSZ2 := Lib.hid (Nat.lt_of_lt_of_le HSZ2.out hO.1)
        have HM1 := Lib.hid hrow
        have HQ1 := Lib.hid (own_mk v32.heap.size 0 hle0 hlt0)
        have HSZ1 := Lib.hid hlt0
        have hbs := hO.2.2 (W.heap.size + 1) (by have := hS0.out; omega) (by have := hS0.out; show _ ≤ v32.heap.size; omega)
        rw [← hw]
        clear hw hrow hlt0
        refine hK.out _ _ (hHeld.trans hbs) (fun hHeld => ?_)
        clear hO hle0 hbs
        clear hK K
        refine rd1 3 (fun K hK => ?_)
        have hq := HQ0.out _ rfl
        obtain ⟨xa, xc, v39, hr, hrow, hO, hown⟩ := LRow.grow HM0.out (g := wd.heap.size) (fun k hk => (HQ0.out k hk).2.2) hq.2.1 ((HP.out.below R_Letter_ok (HB0.out.trans (hHeld.mono (Nat.le_succ _)))).more R_Letter_ok (HB0.out.trans (hHeld.mono (Nat.le_succ _))).size) (by have := hS0.out; have := hq.1; omega) (by have := hlen.1; simp only [List.length_nil]; omega)
        simp only [List.nil_append, List.length_nil] at hr hrow hown
        have HRUN := Lib.hid hr
        clear hr
        have HX02 := Lib.hid (show ∀ k, (Value.slice xa P.length xc).ownBlock = some k → k ≠ v1.heap.size from fun k hk e => by rcases hown k hk with e2 | e2; (have h1 := HX02.out _ rfl; omega); (have h3 := HSZ2.out; omega))
        have HX01 := Lib.hid (show ∀ k, (Value.slice xa P.length xc).ownBlock = some k → k ≠ v32.heap.size from fun k hk e => by rcases hown k hk with e2 | e2; (have h1 := HX01.out _ rfl; omega); (have h3 := HSZ1.out; omega))
        have HR := Lib.hid (hO.blk HR.out (by have := hS0.out; have := hq.1; omega))
        have HM2 := Lib.hid (LRow.mv2 HM2.out hO (fun k hk => HX20.out k hk))
        have HQ2 := Lib.hid (HQ2.out.mono hO.1)
        have HM1 := Lib.hid (LRow.mv2 HM1.out hO (fun k hk => HX10.out k hk))
        have HQ1 := Lib.hid (HQ1.out.mono hO.1)
        have HM0 := Lib.hid hrow
        have HQ0 := Lib.hid (show Own (Value.slice xa P.length xc) w0.heap.size v39.heap.size (fun _ => True) from fun k hk => ⟨by rcases hown k hk with e | e; (have := hq.1; omega); (have := hHeld.size; exact Nat.le_trans this e), (hrow.blk k hk).2, trivial⟩)
        have HSZ2 := Lib.hid (Nat.lt_of_lt_of_le HSZ2.out hO.1)
        have HSZ1 := Lib.hid (Nat.lt_of_lt_of_le HSZ1.out hO.1)
        have hbs := hO.2.2 (W.heap.size + 1) (by have := hS0.out; have := hq.1; omega) (by have := hS0.out; have := hHeld.size; omega)
        clear hq hrow hown hO
        refine step_app rfl (.tmp 3) (.tmp 5) 23 rfl rfl rfl HRUN.out ?_
        refine hK.out _ _ (hHeld.trans hbs) (fun hHeld => ?_)
        clear hbs HRUN
        clear hK K
        refine rd1 7 (fun K hK => ?_)
        have hq := HQ1.out _ rfl
        obtain ⟨ya, yc, v40, hr, hrow, hO, hown⟩ := LRow.grow HM1.out (g := v32.heap.size) (fun k hk => (HQ1.out k hk).2.2) hq.2.1 ((HBB.out.below R_Letter_ok (HB0.out.trans (hHeld.mono (Nat.le_succ _)))).more R_Letter_ok (HB0.out.trans (hHeld.mono (Nat.le_succ _))).size) (by have := hS0.out; have := hq.1; omega) (by have := hlen.2.1; simp only [List.length_nil]; omega)
        simp only [List.nil_append, List.length_nil] at hr hrow hown
        have HRUN := Lib.hid hr
        clear hr
        have HN01 := Lib.hid (show ∀ k, (Value.slice xa P.length xc).ownBlock = some k → (Value.slice ya B.length yc).ownBlock = some k → False from fun k hk h2 => by rcases hown k h2 with e | e; exact HX01.out k hk e; (have h1 := (HQ0.out k hk).2.1; omega))
        have HX12 := Lib.hid (show ∀ k, (Value.slice ya B.length yc).ownBlock = some k → k ≠ v1.heap.size from fun k hk e => by rcases hown k hk with e2 | e2; (have h1 := HX12.out _ rfl; omega); (have h3 := HSZ2.out; omega))
        have HR := Lib.hid (hO.blk HR.out (by have := hS0.out; have := hq.1; omega))
        have HM0 := Lib.hid (LRow.mv2 HM0.out hO (fun k hk => HX01.out k hk))
        have HQ0 := Lib.hid (HQ0.out.mono hO.1)
        have HM2 := Lib.hid (LRow.mv2 HM2.out hO (fun k hk => HX21.out k hk))
        have HQ2 := Lib.hid (HQ2.out.mono hO.1)
        have HM1 := Lib.hid hrow
        have HQ1 := Lib.hid (show Own (Value.slice ya B.length yc) w0.heap.size v40.heap.size (fun _ => True) from fun k hk => ⟨by rcases hown k hk with e | e; (have := hq.1; omega); (have := hHeld.size; exact Nat.le_trans this e), (hrow.blk k hk).2, trivial⟩)
        have HSZ2 := Lib.hid (Nat.lt_of_lt_of_le HSZ2.out hO.1)
        have hbs := hO.2.2 (W.heap.size + 1) (by have := hS0.out; have := hq.1; omega) (by have := hS0.out; have := hHeld.size; omega)
        clear hq hrow hown hO
        refine step_app rfl (.tmp 7) (.tmp 9) 23 rfl rfl rfl HRUN.out ?_
        refine hK.out _ _ (hHeld.trans hbs) (fun hHeld => ?_)
        clear hbs HRUN
        clear hK K
        refine rd1 11 (fun K hK => ?_)
        have hq := HQ2.out _ rfl
        obtain ⟨za, zc, v41, hr, hrow, hO, hown⟩ := LRow.grow HM2.out (g := v1.heap.size) (fun k hk => (HQ2.out k hk).2.2) hq.2.1 ((HA.out.below R_Letter_ok (HB0.out.trans (hHeld.mono (Nat.le_succ _)))).more R_Letter_ok (HB0.out.trans (hHeld.mono (Nat.le_succ _))).size) (by have := hS0.out; have := hq.1; omega) (by have := hlen.2.2; simp only [List.length_nil]; omega)
        simp only [List.nil_append, List.length_nil] at hr hrow hown
        have HRUN := Lib.hid hr
        clear hr
        have HN02 := Lib.hid (show ∀ k, (Value.slice xa P.length xc).ownBlock = some k → (Value.slice za A.length zc).ownBlock = some k → False from fun k hk h2 => by rcases hown k h2 with e | e; exact HX02.out k hk e; (have h1 := (HQ0.out k hk).2.1; omega))
        have HN12 := Lib.hid (show ∀ k, (Value.slice ya B.length yc).ownBlock = some k → (Value.slice za A.length zc).ownBlock = some k → False from fun k hk h2 => by rcases hown k h2 with e | e; exact HX12.out k hk e; (have h1 := (HQ1.out k hk).2.1; omega))
        have HR := Lib.hid (hO.blk HR.out (by have := hS0.out; have := hq.1; omega))
        have HM0 := Lib.hid (LRow.mv2 HM0.out hO (fun k hk => HX02.out k hk))
        have HQ0 := Lib.hid (HQ0.out.mono hO.1)
        have HM1 := Lib.hid (LRow.mv2 HM1.out hO (fun k hk => HX12.out k hk))
        have HQ1 := Lib.hid (HQ1.out.mono hO.1)
        have HM2 := Lib.hid hrow
        have HQ2 := Lib.hid (show Own (Value.slice za A.length zc) w0.heap.size v41.heap.size (fun _ => True) from fun k hk => ⟨by rcases hown k hk with e | e; (have := hq.1; omega); (have := hHeld.size; exact Nat.le_trans this e), (hrow.blk k hk).2, trivial⟩)
        have hbs := hO.2.2 (W.heap.size + 1) (by have := hS0.out; have := hq.1; omega) (by have := hS0.out; have := hHeld.size; omega)
        clear hq hrow hown hO
        refine step_app rfl (.tmp 11) (.tmp 13) 23 rfl rfl rfl HRUN.out ?_
        refine hK.out _ _ (hHeld.trans hbs) (fun hHeld => ?_)
        clear hbs HRUN
        clear hK K
        refine tk 16 hHeld ?_
        refine rd1 17 (fun K hK => ?_)
        have qHR_0 := HR.out.at_ 0 rfl
        have qHR_1 := HR.out.at_ 1 rfl
        have qHR_2 := HR.out.at_ 2 rfl
        have qHR_3 := HR.out.at_ 3 rfl
        have qHR_4 := HR.out.at_ 4 rfl
        have sHR_0 := HR.out.soft 0
        have sHR_1 := HR.out.soft 1
        have sHR_2 := HR.out.soft 2
        have sHR_3 := HR.out.soft 3
        have sHR_4 := HR.out.soft 4
        go_simp
        refine hK.out _ _ (((((hHeld.setCell (p := ⟨W.heap.size + 1, 0, none⟩) (Nat.le_refl _) (.slice xa P.length xc)).setCell (p := ⟨W.heap.size + 1, 1, none⟩) (Nat.le_refl _) (.slice ya B.length yc)).setCell (p := ⟨W.heap.size + 1, 2, none⟩) (Nat.le_refl _) (.slice za A.length zc)).setCell (p := ⟨W.heap.size + 1, 3, none⟩) (Nat.le_refl _) (.int .i64 u)).setCell (p := ⟨W.heap.size + 1, 4, none⟩) (Nat.le_refl _) (.int .i64 n)) (fun hHeld => ?_)
        clear qHR_0 sHR_0 qHR_1 sHR_1 qHR_2 sHR_2 qHR_3 sHR_3 qHR_4 sHR_4
        clear hK K
        refine rd0 ?_
        have qHR_0 := HR.out.at_ 0 rfl
        have qHR_1 := HR.out.at_ 1 rfl
        have qHR_2 := HR.out.at_ 2 rfl
        have qHR_3 := HR.out.at_ 3 rfl
        have qHR_4 := HR.out.at_ 4 rfl
        go_wp2
        refine bodyPost_ret (v := .agg #[.slice xa P.length xc, .slice ya B.length yc, .slice za A.length zc, .int .i64 u, .int .i64 n]) (by simp [results, Tryd.results28, go_sem, *]) rfl ?_
        have hoff := ((((((Off.refl (fun x => x = W.heap.size + 1) v41).setCell (p := ⟨W.heap.size + 1, 0, none⟩) (rfl) (.slice xa P.length xc)).setCell (p := ⟨W.heap.size + 1, 1, none⟩) (rfl) (.slice ya B.length yc)).setCell (p := ⟨W.heap.size + 1, 2, none⟩) (rfl) (.slice za A.length zc)).setCell (p := ⟨W.heap.size + 1, 3, none⟩) (rfl) (.int .i64 u)).setCell (p := ⟨W.heap.size + 1, 4, none⟩) (rfl) (.int .i64 n))
        have hO : But2 v41 _ (W.heap.size + 1) := ⟨hoff.size, fun k hk hne => hoff.block k hk hne, fun C hC hCw => hoff.below hCw (fun k hk => by rw [hk]; exact hC)⟩
        have hbf := HB0.out.trans (hHeld.mono (Nat.le_succ _))
        have hs := hS0.out
        exact ⟨xa, xc, ya, yc, za, zc, rfl, LRow.mv2 HM0.out hO (fun k hk => by have h1 := HQ0.out k hk; omega), LRow.mv2 HM1.out hO (fun k hk => by have h1 := HQ1.out k hk; omega), LRow.mv2 HM2.out hO (fun k hk => by have h1 := HQ2.out k hk; omega), fun k hk => ⟨fun h2 => HN01.out k hk h2, fun h2 => HN02.out k hk h2⟩, fun k hk h2 => HN12.out k hk h2, hbf⟩
  · skip
    go_simp
    obtain ⟨v43, hw⟩ : ∃ w', w' = wd.alloc (.cells #[] 48) := ⟨_, rfl⟩
    have hO : But2 wd v43 wd.heap.size := by rw [hw]; exact But2.alloc _ _
    have hle0 : w0.heap.size ≤ wd.heap.size := hHeld.size
    have hlt0 : wd.heap.size < v43.heap.size := by rw [hw]; simp
    have hrow : LRow v43 W.heap.size (.slice (some ⟨wd.heap.size, 0, none⟩) 0 0) [] := by rw [hw]; exact (FRow.made _ _ wd _).lower (by have := hS0.out; show W.heap.size ≤ wd.heap.size; omega)
    have HR := Lib.hid (hO.blk HR.out (by have := hS0.out; omega))
    have HM1 := Lib.hid hrow
    have HQ1 := Lib.hid (own_mk wd.heap.size 0 hle0 hlt0)
    have HSZ1 := Lib.hid hlt0
    have hbs := hO.2.2 (W.heap.size + 1) (by have := hS0.out; omega) (by have := hS0.out; show _ ≤ wd.heap.size; omega)
    rw [← hw]
    clear hw hrow hlt0
    refine hK.out _ _ (hHeld.trans hbs) (fun hHeld => ?_)
    clear hO hle0 hbs
    clear hK K
    refine rd2 0 8 (fun K hK => ?_) (fun K hK => ?_)
    · skip
      go_simp
      obtain ⟨v44, hw⟩ : ∃ w', w' = v43.alloc (.cells #[] 48) := ⟨_, rfl⟩
      have hO : But2 v43 v44 v43.heap.size := by rw [hw]; exact But2.alloc _ _
      have hle0 : w0.heap.size ≤ v43.heap.size := hHeld.size
      have hlt0 : v43.heap.size < v44.heap.size := by rw [hw]; simp
      have hrow : LRow v44 W.heap.size (.slice (some ⟨v43.heap.size, 0, none⟩) 0 0) [] := by rw [hw]; exact (FRow.made _ _ v43 _).lower (by have := hS0.out; show W.heap.size ≤ v43.heap.size; omega)
      have HX10 := Lib.hid (show ∀ k, (Value.slice (some ⟨wd.heap.size, 0, none⟩) 0 0).ownBlock = some k → k ≠ v43.heap.size from fun k hk => Nat.ne_of_lt (HQ1.out k hk).2.1)
      have HX01 := Lib.hid (show ∀ k, (Value.slice (some ⟨v43.heap.size, 0, none⟩) 0 0).ownBlock = some k → k ≠ wd.heap.size from fun k hk => by cases hk; exact Nat.ne_of_gt HSZ1.out)
      have HR := Lib.hid (hO.blk HR.out (by have := hS0.out; omega))
      have HM1 := Lib.hid (LRow.mv2 HM1.out hO (fun k hk => HX10.out k hk))
      have HQ1 := Lib.hid (HQ1.out.mono hO.1)
      have HSZ1 := Lib.hid (Nat.lt_of_lt_of_le HSZ1.out hO.1)
      have HM0 := Lib.hid hrow
      have HQ0 := Lib.hid (own_mk v43.heap.size 0 hle0 hlt0)
      have HSZ0 := Lib.hid hlt0
      have hbs := hO.2.2 (W.heap.size + 1) (by have := hS0.out; omega) (by have := hS0.out; show _ ≤ v43.heap.size; omega)
      rw [← hw]
      clear hw hrow hlt0
      refine hK.out _ _ (hHeld.trans hbs) (fun hHeld => ?_)
      clear hO hle0 hbs
      clear hK K
      refine rd2 3 8 (fun K hK => ?_) (fun K hK => ?_)
      · skip
        have hq := HQ0.out _ rfl
        obtain ⟨xa, xc, v45, hr, hrow, hO, hown⟩ := LRow.grow HM0.out (g := v43.heap.size) (fun k hk => (HQ0.out k hk).2.2) hq.2.1 ((HP.out.below R_Letter_ok (HB0.out.trans (hHeld.mono (Nat.le_succ _)))).more R_Letter_ok (HB0.out.trans (hHeld.mono (Nat.le_succ _))).size) (by have := hS0.out; have := hq.1; omega) (by have := hlen.1; simp only [List.length_nil]; omega)
        simp only [List.nil_append, List.length_nil] at hr hrow hown
        have HRUN := Lib.hid hr
        clear hr
        have HX01 := Lib.hid (show ∀ k, (Value.slice xa P.length xc).ownBlock = some k → k ≠ wd.heap.size from fun k hk e => by rcases hown k hk with e2 | e2; (have h1 := HX01.out _ rfl; omega); (have h3 := HSZ1.out; omega))
        have HR := Lib.hid (hO.blk HR.out (by have := hS0.out; have := hq.1; omega))
        have HM1 := Lib.hid (LRow.mv2 HM1.out hO (fun k hk => HX10.out k hk))
        have HQ1 := Lib.hid (HQ1.out.mono hO.1)
        have HM0 := Lib.hid hrow
        have HQ0 := Lib.hid (show Own (Value.slice xa P.length xc) w0.heap.size v45.heap.size (fun _ => True) from fun k hk => ⟨by rcases hown k hk with e | e; (have := hq.1; omega); (have := hHeld.size; exact Nat.le_trans this e), (hrow.blk k hk).2, trivial⟩)
        have HSZ1 := Lib.hid (Nat.lt_of_lt_of_le HSZ1.out hO.1)
        have hbs := hO.2.2 (W.heap.size + 1) (by have := hS0.out; have := hq.1; omega) (by have := hS0.out; have := hHeld.size; omega)
        clear hq hrow hown hO
        refine step_app rfl (.tmp 3) (.tmp 5) 23 rfl rfl rfl HRUN.out ?_
        refine hK.out _ _ (hHeld.trans hbs) (fun hHeld => ?_)
        clear hbs HRUN
        clear hK K
        refine rd2 7 8 (fun K hK => ?_) (fun K hK => ?_)
        · skip
          have hq := HQ1.out _ rfl
          obtain ⟨ya, yc, v46, hr, hrow, hO, hown⟩ := LRow.grow HM1.out (g := wd.heap.size) (fun k hk => (HQ1.out k hk).2.2) hq.2.1 ((HBB.out.below R_Letter_ok (HB0.out.trans (hHeld.mono (Nat.le_succ _)))).more R_Letter_ok (HB0.out.trans (hHeld.mono (Nat.le_succ _))).size) (by have := hS0.out; have := hq.1; omega) (by have := hlen.2.1; simp only [List.length_nil]; omega)
          simp only [List.nil_append, List.length_nil] at hr hrow hown
          have HRUN := Lib.hid hr
          clear hr
          have HN01 := Lib.hid (show ∀ k, (Value.slice xa P.length xc).ownBlock = some k → (Value.slice ya B.length yc).ownBlock = some k → False from fun k hk h2 => by rcases hown k h2 with e | e; exact HX01.out k hk e; (have h1 := (HQ0.out k hk).2.1; omega))
          have HR := Lib.hid (hO.blk HR.out (by have := hS0.out; have := hq.1; omega))
          have HM0 := Lib.hid (LRow.mv2 HM0.out hO (fun k hk => HX01.out k hk))
          have HQ0 := Lib.hid (HQ0.out.mono hO.1)
          have HM1 := Lib.hid hrow
          have HQ1 := Lib.hid (show Own (Value.slice ya B.length yc) w0.heap.size v46.heap.size (fun _ => True) from fun k hk => ⟨by rcases hown k hk with e | e; (have := hq.1; omega); (have := hHeld.size; exact Nat.le_trans this e), (hrow.blk k hk).2, trivial⟩)
          have hbs := hO.2.2 (W.heap.size + 1) (by have := hS0.out; have := hq.1; omega) (by have := hS0.out; have := hHeld.size; omega)
          clear hq hrow hown hO
          refine step_app rfl (.tmp 7) (.tmp 9) 23 rfl rfl rfl HRUN.out ?_
          refine hK.out _ _ (hHeld.trans hbs) (fun hHeld => ?_)
          clear hbs HRUN
          clear hK K
          refine rd1 8 (fun K hK => ?_)
          go_simp
          obtain ⟨v47, hw⟩ : ∃ w', w' = v46.alloc (.cells #[] 48) := ⟨_, rfl⟩
          have hO : But2 v46 v47 v46.heap.size := by rw [hw]; exact But2.alloc _ _
          have hle0 : w0.heap.size ≤ v46.heap.size := hHeld.size
          have hlt0 : v46.heap.size < v47.heap.size := by rw [hw]; simp
          have hrow : LRow v47 W.heap.size (.slice (some ⟨v46.heap.size, 0, none⟩) 0 0) [] := by rw [hw]; exact (FRow.made _ _ v46 _).lower (by have := hS0.out; show W.heap.size ≤ v46.heap.size; omega)
          have HX12 := Lib.hid (show ∀ k, (Value.slice ya B.length yc).ownBlock = some k → k ≠ v46.heap.size from fun k hk => Nat.ne_of_lt (HQ1.out k hk).2.1)
          have HX02 := Lib.hid (show ∀ k, (Value.slice xa P.length xc).ownBlock = some k → k ≠ v46.heap.size from fun k hk => Nat.ne_of_lt (HQ0.out k hk).2.1)
          have HR := Lib.hid (hO.blk HR.out (by have := hS0.out; omega))
          have HM1 := Lib.hid (LRow.mv2 HM1.out hO (fun k hk => HX12.out k hk))
          have HQ1 := Lib.hid (HQ1.out.mono hO.1)
          have HM0 := Lib.hid (LRow.mv2 HM0.out hO (fun k hk => HX02.out k hk))
          have HQ0 := Lib.hid (HQ0.out.mono hO.1)
          have HM2 := Lib.hid hrow
          have HQ2 := Lib.hid (own_mk v46.heap.size 0 hle0 hlt0)
          have HSZ2 := Lib.hid hlt0
          have hbs := hO.2.2 (W.heap.size + 1) (by have := hS0.out; omega) (by have := hS0.out; show _ ≤ v46.heap.size; omega)
          rw [← hw]
          clear hw hrow hlt0
          refine hK.out _ _ (hHeld.trans hbs) (fun hHeld => ?_)
          clear hO hle0 hbs
          clear hK K
          refine rd1 11 (fun K hK => ?_)
          have hq := HQ2.out _ rfl
          obtain ⟨za, zc, v48, hr, hrow, hO, hown⟩ := LRow.grow HM2.out (g := v46.heap.size) (fun k hk => (HQ2.out k hk).2.2) hq.2.1 ((HA.out.below R_Letter_ok (HB0.out.trans (hHeld.mono (Nat.le_succ _)))).more R_Letter_ok (HB0.out.trans (hHeld.mono (Nat.le_succ _))).size) (by have := hS0.out; have := hq.1; omega) (by have := hlen.2.2; simp only [List.length_nil]; omega)
          simp only [List.nil_append, List.length_nil] at hr hrow hown
          have HRUN := Lib.hid hr
          clear hr
          have HN02 := Lib.hid (show ∀ k, (Value.slice xa P.length xc).ownBlock = some k → (Value.slice za A.length zc).ownBlock = some k → False from fun k hk h2 => by rcases hown k h2 with e | e; exact HX02.out k hk e; (have h1 := (HQ0.out k hk).2.1; omega))
          have HN12 := Lib.hid (show ∀ k, (Value.slice ya B.length yc).ownBlock = some k → (Value.slice za A.length zc).ownBlock = some k → False from fun k hk h2 => by rcases hown k h2 with e | e; exact HX12.out k hk e; (have h1 := (HQ1.out k hk).2.1; omega))
          have HR := Lib.hid (hO.blk HR.out (by have := hS0.out; have := hq.1; omega))
          have HM0 := Lib.hid (LRow.mv2 HM0.out hO (fun k hk => HX02.out k hk))
          have HQ0 := Lib.hid (HQ0.out.mono hO.1)
          have HM1 := Lib.hid (LRow.mv2 HM1.out hO (fun k hk => HX12.out k hk))
          have HQ1 := Lib.hid (HQ1.out.mono hO.1)
          have HM2 := Lib.hid hrow
          have HQ2 := Lib.hid (show Own (Value.slice za A.length zc) w0.heap.size v48.heap.size (fun _ => True) from fun k hk => ⟨by rcases hown k hk with e | e; (have := hq.1; omega); (have := hHeld.size; exact Nat.le_trans this e), (hrow.blk k hk).2, trivial⟩)
          have hbs := hO.2.2 (W.heap.size + 1) (by have := hS0.out; have := hq.1; omega) (by have := hS0.out; have := hHeld.size; omega)
          clear hq hrow hown hO
          refine step_app rfl (.tmp 11) (.tmp 13) 23 rfl rfl rfl HRUN.out ?_
          refine hK.out _ _ (hHeld.trans hbs) (fun hHeld => ?_)
          clear hbs HRUN
          clear hK K
          refine tk 16 hHeld ?_
          refine rd1 17 (fun K hK => ?_)
          have qHR_0 := HR.out.at_ 0 rfl
          have qHR_1 := HR.out.at_ 1 rfl
          have qHR_2 := HR.out.at_ 2 rfl
          have qHR_3 := HR.out.at_ 3 rfl
          have qHR_4 := HR.out.at_ 4 rfl
          have sHR_0 := HR.out.soft 0
          have sHR_1 := HR.out.soft 1
          have sHR_2 := HR.out.soft 2
          have sHR_3 := HR.out.soft 3
          have sHR_4 := HR.out.soft 4
          go_simp
          refine hK.out _ _ (((((hHeld.setCell (p := ⟨W.heap.size + 1, 0, none⟩) (Nat.le_refl _) (.slice xa P.length xc)).setCell (p := ⟨W.heap.size + 1, 1, none⟩) (Nat.le_refl _) (.slice ya B.length yc)).setCell (p := ⟨W.heap.size + 1, 2, none⟩) (Nat.le_refl _) (.slice za A.length zc)).setCell (p := ⟨W.heap.size + 1, 3, none⟩) (Nat.le_refl _) (.int .i64 u)).setCell (p := ⟨W.heap.size + 1, 4, none⟩) (Nat.le_refl _) (.int .i64 n)) (fun hHeld => ?_)
          clear qHR_0 sHR_0 qHR_1 sHR_1 qHR_2 sHR_2 qHR_3 sHR_3 qHR_4 sHR_4
          clear hK K
          refine rd0 ?_
          have qHR_0 := HR.out.at_ 0 rfl
          have qHR_1 := HR.out.at_ 1 rfl
          have qHR_2 := HR.out.at_ 2 rfl
          have qHR_3 := HR.out.at_ 3 rfl
          have qHR_4 := HR.out.at_ 4 rfl
          go_wp2
          refine bodyPost_ret (v := .agg #[.slice xa P.length xc, .slice ya B.length yc, .slice za A.length zc, .int .i64 u, .int .i64 n]) (by simp [results, Tryd.results28, go_sem, *]) rfl ?_
          have hoff := ((((((Off.refl (fun x => x = W.heap.size + 1) v48).setCell (p := ⟨W.heap.size + 1, 0, none⟩) (rfl) (.slice xa P.length xc)).setCell (p := ⟨W.heap.size + 1, 1, none⟩) (rfl) (.slice ya B.length yc)).setCell (p := ⟨W.heap.size + 1, 2, none⟩) (rfl) (.slice za A.length zc)).setCell (p := ⟨W.heap.size + 1, 3, none⟩) (rfl) (.int .i64 u)).setCell (p := ⟨W.heap.size + 1, 4, none⟩) (rfl) (.int .i64 n))
          have hO : But2 v48 _ (W.heap.size + 1) := ⟨hoff.size, fun k hk hne => hoff.block k hk hne, fun C hC hCw => hoff.below hCw (fun k hk => by rw [hk]; exact hC)⟩
          have hbf := HB0.out.trans (hHeld.mono (Nat.le_succ _))
          have hs := hS0.out
          exact ⟨xa, xc, ya, yc, za, zc, rfl, LRow.mv2 HM0.out hO (fun k hk => by have h1 := HQ0.out k hk; omega), LRow.mv2 HM1.out hO (fun k hk => by have h1 := HQ1.out k hk; omega), LRow.mv2 HM2.out hO (fun k hk => by have h1 := HQ2.out k hk; omega), fun k hk => ⟨fun h2 => HN01.out k hk h2, fun h2 => HN02.out k hk h2⟩, fun k hk h2 => HN12.out k hk h2, hbf⟩
        · skip
          go_simp
          obtain ⟨v50, hw⟩ : ∃ w', w' = v45.alloc (.cells #[] 48) := ⟨_, rfl⟩
          have hO : But2 v45 v50 v45.heap.size := by rw [hw]; exact But2.alloc _ _
          have hle0 : w0.heap.size ≤ v45.heap.size := hHeld.size
          have hlt0 : v45.heap.size < v50.heap.size := by rw [hw]; simp
          have hrow : LRow v50 W.heap.size (.slice (some ⟨v45.heap.size, 0, none⟩) 0 0) [] := by rw [hw]; exact (FRow.made _ _ v45 _).lower (by have := hS0.out; show W.heap.size ≤ v45.heap.size; omega)
          have HX12 := Lib.hid (show ∀ k, (Value.slice (some ⟨wd.heap.size, 0, none⟩) 0 0).ownBlock = some k → k ≠ v45.heap.size from fun k hk => Nat.ne_of_lt (HQ1.out k hk).2.1)
          have HX21 := Lib.hid (show ∀ k, (Value.slice (some ⟨v45.heap.size, 0, none⟩) 0 0).ownBlock = some k → k ≠ wd.heap.size from fun k hk => by cases hk; exact Nat.ne_of_gt HSZ1.out)
          have HX02 := Lib.hid (show ∀ k, (Value.slice xa P.length xc).ownBlock = some k → k ≠ v45.heap.size from fun k hk => Nat.ne_of_lt (HQ0.out k hk).2.1)
          have HR := Lib.hid (hO.blk HR.out (by have := hS0.out; omega))
          have HM1 := Lib.hid (LRow.mv2 HM1.out hO (fun k hk => HX12.out k hk))
          have HQ1 := Lib.hid (HQ1.out.mono hO.1)
          have HSZ1 := Lib.hid (Nat.lt_of_lt_of_le HSZ1.out hO.1)
          have HM0 := Lib.hid (LRow.mv2 HM0.out hO (fun k hk => HX02.out k hk))
          have HQ0 := Lib.hid (HQ0.out.mono hO.1)
          have HM2 := Lib.hid hrow
          have HQ2 := Lib.hid (own_mk v45.heap.size 0 hle0 hlt0)
          have HSZ2 := Lib.hid hlt0
          have hbs := hO.2.2 (W.heap.size + 1) (by have := hS0.out; omega) (by have := hS0.out; show _ ≤ v45.heap.size; omega)
          rw [← hw]
          clear hw hrow hlt0
          refine hK.out _ _ (hHeld.trans hbs) (fun hHeld => ?_)
          clear hO hle0 hbs
          clear hK K
          refine rd1 7 (fun K hK => ?_)
          have hq := HQ1.out _ rfl
          obtain ⟨ya, yc, v51, hr, hrow, hO, hown⟩ := LRow.grow HM1.out (g := wd.heap.size) (fun k hk => (HQ1.out k hk).2.2) hq.2.1 ((HBB.out.below R_Letter_ok (HB0.out.trans (hHeld.mono (Nat.le_succ _)))).more R_Letter_ok (HB0.out.trans (hHeld.mono (Nat.le_succ _))).size) (by have := hS0.out; have := hq.1; omega) (by have := hlen.2.1; simp only [List.length_nil]; omega)
          simp only [List.nil_append, List.length_nil] at hr hrow hown
          have HRUN := Lib.hid hr
          clear hr
          have HN01 := Lib.hid (show ∀ k, (Value.slice xa P.length xc).ownBlock = some k → (Value.slice ya B.length yc).ownBlock = some k → False from fun k hk h2 => by rcases hown k h2 with e | e; exact HX01.out k hk e; (have h1 := (HQ0.out k hk).2.1; omega))
          have HX12 := Lib.hid (show ∀ k, (Value.slice ya B.length yc).ownBlock = some k → k ≠ v45.heap.size from fun k hk e => by rcases hown k hk with e2 | e2; (have h1 := HX12.out _ rfl; omega); (have h3 := HSZ2.out; omega))
          have HR := Lib.hid (hO.blk HR.out (by have := hS0.out; have := hq.1; omega))
          have HM0 := Lib.hid (LRow.mv2 HM0.out hO (fun k hk => HX01.out k hk))
          have HQ0 := Lib.hid (HQ0.out.mono hO.1)
          have HM2 := Lib.hid (LRow.mv2 HM2.out hO (fun k hk => HX21.out k hk))
          have HQ2 := Lib.hid (HQ2.out.mono hO.1)
          have HM1 := Lib.hid hrow
          have HQ1 := Lib.hid (show Own (Value.slice ya B.length yc) w0.heap.size v51.heap.size (fun _ => True) from fun k hk => ⟨by rcases hown k hk with e | e; (have := hq.1; omega); (have := hHeld.size; exact Nat.le_trans this e), (hrow.blk k hk).2, trivial⟩)
          have HSZ2 := Lib.hid (Nat.lt_of_lt_of_le HSZ2.out hO.1)
          have hbs := hO.2.2 (W.heap.size + 1) (by have := hS0.out; have := hq.1; omega) (by have := hS0.out; have := hHeld.size; omega)
          clear hq hrow hown hO
          refine step_app rfl (.tmp 7) (.tmp 9) 23 rfl rfl rfl HRUN.out ?_
          refine hK.out _ _ (hHeld.trans hbs) (fun hHeld => ?_)
          clear hbs HRUN
          clear hK K
          refine rd1 11 (fun K hK => ?_)
          have hq := HQ2.out _ rfl
          obtain ⟨za, zc, v52, hr, hrow, hO, hown⟩ := LRow.grow HM2.out (g := v45.heap.size) (fun k hk => (HQ2.out k hk).2.2) hq.2.1 ((HA.out.below R_Letter_ok (HB0.out.trans (hHeld.mono (Nat.le_succ _)))).more R_Letter_ok (HB0.out.trans (hHeld.mono (Nat.le_succ _))).size) (by have := hS0.out; have := hq.1; omega) (by have := hlen.2.2; simp only [List.length_nil]; omega)
          simp only [List.nil_append, List.length_nil] at hr hrow hown
          have HRUN := Lib.hid hr
          clear hr
          have HN02 := Lib.hid (show ∀ k, (Value.slice xa P.length xc).ownBlock = some k → (Value.slice za A.length zc).ownBlock = some k → False from fun k hk h2 => by rcases hown k h2 with e | e; exact HX02.out k hk e; (have h1 := (HQ0.out k hk).2.1; omega))
          have HN12 := Lib.hid (show ∀ k, (Value.slice ya B.length yc).ownBlock = some k → (Value.slice za A.length zc).ownBlock = some k → False from fun k hk h2 => by rcases hown k h2 with e | e; exact HX12.out k hk e; (have h1 := (HQ1.out k hk).2.1; omega))
          have HR := Lib.hid (hO.blk HR.out (by have := hS0.out; have := hq.1; omega))
          have HM0 := Lib.hid (LRow.mv2 HM0.out hO (fun k hk => HX02.out k hk))
          have HQ0 := Lib.hid (HQ0.out.mono hO.1)
          have HM1 := Lib.hid (LRow.mv2 HM1.out hO (fun k hk => HX12.out k hk))
          have HQ1 := Lib.hid (HQ1.out.mono hO.1)
          have HM2 := Lib.hid hrow
          have HQ2 := Lib.hid (show Own (Value.slice za A.length zc) w0.heap.size v52.heap.size (fun _ => True) from fun k hk => ⟨by rcases hown k hk with e | e; (have := hq.1; omega); (have := hHeld.size; exact Nat.le_trans this e), (hrow.blk k hk).2, trivial⟩)
          have hbs := hO.2.2 (W.heap.size + 1) (by have := hS0.out; have := hq.1; omega) (by have := hS0.out; have := hHeld.size; omega)
          clear hq hrow hown hO
          refine step_app rfl (.tmp 11) (.tmp 13) 23 rfl rfl rfl HRUN.out ?_
          refine hK.out _ _ (hHeld.trans hbs) (fun hHeld => ?_)
          clear hbs HRUN
          clear hK K
          refine tk 16 hHeld ?_
          refine rd1 17 (fun K hK => ?_)
          have qHR_0 := HR.out.at_ 0 rfl
          have qHR_1 := HR.out.at_ 1 rfl
          have qHR_2 := HR.out.at_ 2 rfl
          have qHR_3 := HR.out.at_ 3 rfl
          have qHR_4 := HR.out.at_ 4 rfl
          have sHR_0 := HR.out.soft 0
          have sHR_1 := HR.out.soft 1
          have sHR_2 := HR.out.soft 2
          have sHR_3 := HR.out.soft 3
          have sHR_4 := HR.out.soft 4
          go_simp
          refine hK.out _ _ (((((hHeld.setCell (p := ⟨W.heap.size + 1, 0, none⟩) (Nat.le_refl _) (.slice xa P.length xc)).setCell (p := ⟨W.heap.size + 1, 1, none⟩) (Nat.le_refl _) (.slice ya B.length yc)).setCell (p := ⟨W.heap.size + 1, 2, none⟩) (Nat.le_refl _) (.slice za A.length zc)).setCell (p := ⟨W.heap.size + 1, 3, none⟩) (Nat.le_refl _) (.int .i64 u)).setCell (p := ⟨W.heap.size + 1, 4, none⟩) (Nat.le_refl _) (.int .i64 n)) (fun hHeld => ?_)
          clear qHR_0 sHR_0 qHR_1 sHR_1 qHR_2 sHR_2 qHR_3 sHR_3 qHR_4 sHR_4
          clear hK K
          refine rd0 ?_
          have qHR_0 := HR.out.at_ 0 rfl
          have qHR_1 := HR.out.at_ 1 rfl
          have qHR_2 := HR.out.at_ 2 rfl
          have qHR_3 := HR.out.at_ 3 rfl
          have qHR_4 := HR.out.at_ 4 rfl
          go_wp2
          refine bodyPost_ret (v := .agg #[.slice xa P.length xc, .slice ya B.length yc, .slice za A.length zc, .int .i64 u, .int .i64 n]) (by simp [results, Tryd.results28, go_sem, *]) rfl ?_
          have hoff := ((((((Off.refl (fun x => x = W.heap.size + 1) v52).setCell (p := ⟨W.heap.size + 1, 0, none⟩) (rfl) (.slice xa P.length xc)).setCell (p := ⟨W.heap.size + 1, 1, none⟩) (rfl) (.slice ya B.length yc)).setCell (p := ⟨W.heap.size + 1, 2, none⟩) (rfl) (.slice za A.length zc)).setCell (p := ⟨W.heap.size + 1, 3, none⟩) (rfl) (.int .i64 u)).setCell (p := ⟨W.heap.size + 1, 4, none⟩) (rfl) (.int .i64 n))
          have hO : But2 v52 _ (W.heap.size + 1) := ⟨hoff.size, fun k hk hne => hoff.block k hk hne, fun C hC hCw => hoff.below hCw (fun k hk => by rw [hk]; exact hC)⟩
          have hbf := HB0.out.trans (hHeld.mono (Nat.le_succ _))
          have hs := hS0.out
          exact ⟨xa, xc, ya, yc, za, zc, rfl, LRow.mv2 HM0.out hO (fun k hk => by have h1 := HQ0.out k hk; omega), LRow.mv2 HM1.out hO (fun k hk => by have h1 := HQ1.out k hk; omega), LRow.mv2 HM2.out hO (fun k hk => by have h1 := HQ2.out k hk; omega), fun k hk => ⟨fun h2 => HN01.out k hk h2, fun h2 => HN02.out k hk h2⟩, fun k hk h2 => HN12.out k hk h2, hbf⟩
      · skip
        go_simp
        obtain ⟨v54, hw⟩ : ∃ w', w' = v44.alloc (.cells #[] 48) := ⟨_, rfl⟩
        have hO : But2 v44 v54 v44.heap.size := by rw [hw]; exact But2.alloc _ _
        have hle0 : w0.heap.size ≤ v44.heap.size := hHeld.size
        have hlt0 : v44.heap.size < v54.heap.size := by rw [hw]; simp
        have hrow : LRow v54 W.heap.size (.slice (some ⟨v44.heap.size, 0, none⟩) 0 0) [] := by rw [hw]; exact (FRow.made _ _ v44 _).lower (by have := hS0.out; show W.heap.size ≤ v44.heap.size; omega)
        have HX12 := Lib.hid (show ∀ k, (Value.slice (some ⟨wd.heap.size, 0, none⟩) 0 0).ownBlock = some k → k ≠ v44.heap.size from fun k hk => Nat.ne_of_lt (HQ1.out k hk).2.1)
        have HX21 := Lib.hid (show ∀ k, (Value.slice (some ⟨v44.heap.size, 0, none⟩) 0 0).ownBlock = some k → k ≠ wd.heap.size from fun k hk => by cases hk; exact Nat.ne_of_gt HSZ1.out)
        have HX02 := Lib.hid (show ∀ k, (Value.slice (some ⟨v43.heap.size, 0, none⟩) 0 0).ownBlock = some k → k ≠ v44.heap.size from fun k hk => Nat.ne_of_lt (HQ0.out k hk).2.1)
        have HX20 := Lib.hid (show ∀ k, (Value.slice (some ⟨v44.heap.size, 0, none⟩) 0 0).ownBlock = some k → k ≠ v43.heap.size from fun k hk => by cases hk; exact Nat.ne_of_gt HSZ0.out)
        have HR := Lib.hid (hO.blk HR.out (by have := hS0.out; omega))
        have HM1 := Lib.hid (LRow.mv2 HM1.out hO (fun k hk => HX12.out k hk))
        have HQ1 := Lib.hid (HQ1.out.mono hO.1)
        have HSZ1 := Lib.hid (Nat.lt_of_lt_of_le HSZ1.out hO.1)
        have HM0 := Lib.hid (LRow.mv2 HM0.out hO (fun k hk => HX02.out k hk))
        have HQ0 := Lib.hid (HQ0.out.mono hO.1)
        have HSZ0 := Lib.hid (Nat.lt_of_lt_of_le HSZ0.out hO.1)
        have HM2 := Lib.hid hrow
        have HQ2 := Lib.hid (own_mk v44.heap.size 0 hle0 hlt0)
        have HSZ2 := Lib.hid hlt0
        have hbs := hO.2.2 (W.heap.size + 1) (by have := hS0.out; omega) (by have := hS0.out; show _ ≤ v44.heap.size; omega)
        rw [← hw]
        clear hw hrow hlt0
        refine hK.out _ _ (hHeld.trans hbs) (fun hHeld => ?_)
        clear hO hle0 hbs
        clear hK K
        refine rd1 3 (fun K hK => ?_)
        have hq := HQ0.out _ rfl
        obtain ⟨xa, xc, v55, hr, hrow, hO, hown⟩ := LRow.grow HM0.out (g := v43.heap.size) (fun k hk => (HQ0.out k hk).2.2) hq.2.1 ((HP.out.below R_Letter_ok (HB0.out.trans (hHeld.mono (Nat.le_succ _)))).more R_Letter_ok (HB0.out.trans (hHeld.mono (Nat.le_succ _))).size) (by have := hS0.out; have := hq.1; omega) (by have := hlen.1; simp only [List.length_nil]; omega)
        simp only [List.nil_append, List.length_nil] at hr hrow hown
        have HRUN := Lib.hid hr
        clear hr
        have HX01 := Lib.hid (show ∀ k, (Value.slice xa P.length xc).ownBlock = some k → k ≠ wd.heap.size from fun k hk e => by rcases hown k hk with e2 | e2; (have h1 := HX01.out _ rfl; omega); (have h3 := HSZ1.out; omega))
        have HX02 := Lib.hid (show ∀ k, (Value.slice xa P.length xc).ownBlock = some k → k ≠ v44.heap.size from fun k hk e => by rcases hown k hk with e2 | e2; (have h1 := HX02.out _ rfl; omega); (have h3 := HSZ2.out; omega))
        have HR := Lib.hid (hO.blk HR.out (by have := hS0.out; have := hq.1; omega))
        have HM1 := Lib.hid (LRow.mv2 HM1.out hO (fun k hk => HX10.out k hk))
        have HQ1 := Lib.hid (HQ1.out.mono hO.1)
        have HM2 := Lib.hid (LRow.mv2 HM2.out hO (fun k hk => HX20.out k hk))
        have HQ2 := Lib.hid (HQ2.out.mono hO.1)
        have HM0 := Lib.hid hrow
        have HQ0 := Lib.hid (show Own (Value.slice xa P.length xc) w0.heap.size v55.heap.size (fun _ => True) from fun k hk => ⟨by rcases hown k hk with e | e; (have := hq.1; omega); (have := hHeld.size; exact Nat.le_trans this e), (hrow.blk k hk).2, trivial⟩)
        have HSZ1 := Lib.hid (Nat.lt_of_lt_of_le HSZ1.out hO.1)
        have HSZ2 := Lib.hid (Nat.lt_of_lt_of_le HSZ2.out hO.1)
        have hbs := hO.2.2 (W.heap.size + 1) (by have := hS0.out; have := hq.1; omega) (by have := hS0.out; have := hHeld.size; omega)
        clear hq hrow hown hO
        refine step_app rfl (.tmp 3) (.tmp 5) 23 rfl rfl rfl HRUN.out ?_
        refine hK.out _ _ (hHeld.trans hbs) (fun hHeld => ?_)
        clear hbs HRUN
        clear hK K
        refine rd1 7 (fun K hK => ?_)
        have hq := HQ1.out _ rfl
        obtain ⟨ya, yc, v56, hr, hrow, hO, hown⟩ := LRow.grow HM1.out (g := wd.heap.size) (fun k hk => (HQ1.out k hk).2.2) hq.2.1 ((HBB.out.below R_Letter_ok (HB0.out.trans (hHeld.mono (Nat.le_succ _)))).more R_Letter_ok (HB0.out.trans (hHeld.mono (Nat.le_succ _))).size) (by have := hS0.out; have := hq.1; omega) (by have := hlen.2.1; simp only [List.length_nil]; omega)
        simp only [List.nil_append, List.length_nil] at hr hrow hown
        have HRUN := Lib.hid hr
        clear hr
        have HN01 := Lib.hid (show ∀ k, (Value.slice xa P.length xc).ownBlock = some k → (Value.slice ya B.length yc).ownBlock = some k → False from fun k hk h2 => by rcases hown k h2 with e | e; exact HX01.out k hk e; (have h1 := (HQ0.out k hk).2.1; omega))
        have HX12 := Lib.hid (show ∀ k, (Value.slice ya B.length yc).ownBlock = some k → k ≠ v44.heap.size from fun k hk e => by rcases hown k hk with e2 | e2; (have h1 := HX12.out _ rfl; omega); (have h3 := HSZ2.out; omega))
        have HR := Lib.hid (hO.blk HR.out (by have := hS0.out; have := hq.1; omega))
        have HM0 := Lib.hid (LRow.mv2 HM0.out hO (fun k hk => HX01.out k hk))
        have HQ0 := Lib.hid (HQ0.out.mono hO.1)
        have HM2 := Lib.hid (LRow.mv2 HM2.out hO (fun k hk => HX21.out k hk))
        have HQ2 := Lib.hid (HQ2.out.mono hO.1)
        have HM1 := Lib.hid hrow
        have HQ1 := Lib.hid (show Own (Value.slice ya B.length yc) w0.heap.size v56.heap.size (fun _ => True) from fun k hk => ⟨by rcases hown k hk with e | e; (have := hq.1; omega); (have := hHeld.size; exact Nat.le_trans this e), (hrow.blk k hk).2, trivial⟩)
        have HSZ2 := Lib.hid (Nat.lt_of_lt_of_le HSZ2.out hO.1)
        have hbs := hO.2.2 (W.heap.size + 1) (by have := hS0.out; have := hq.1; omega) (by have := hS0.out; have := hHeld.size; omega)
        clear hq hrow hown hO
        refine step_app rfl (.tmp 7) (.tmp 9) 23 rfl rfl rfl HRUN.out ?_
        refine hK.out _ _ (hHeld.trans hbs) (fun hHeld => ?_)
        clear hbs HRUN
        clear hK K
        refine rd1 11 (fun K hK => ?_)
        have hq := HQ2.out _ rfl
        obtain ⟨za, zc, v57, hr, hrow, hO, hown⟩ := LRow.grow HM2.out (g := v44.heap.size) (fun k hk => (HQ2.out k hk).2.2) hq.2.1 ((HA.out.below R_Letter_ok (HB0.out.trans (hHeld.mono (Nat.le_succ _)))).more R_Letter_ok (HB0.out.trans (hHeld.mono (Nat.le_succ _))).size) (by have := hS0.out; have := hq.1; omega) (by have := hlen.2.2; simp only [List.length_nil]; omega)
        simp only [List.nil_append, List.length_nil] at hr hrow hown
        have HRUN := Lib.hid hr
        clear hr
        have HN02 := Lib.hid (show ∀ k, (Value.slice xa P.length xc).ownBlock = some k → (Value.slice za A.length zc).ownBlock = some k → False from fun k hk h2 => by rcases hown k h2 with e | e; exact HX02.out k hk e; (have h1 := (HQ0.out k hk).2.1; omega))
        have HN12 := Lib.hid (show ∀ k, (Value.slice ya B.length yc).ownBlock = some k → (Value.slice za A.length zc).ownBlock = some k → False from fun k hk h2 => by rcases hown k h2 with e | e; exact HX12.out k hk e; (have h1 := (HQ1.out k hk).2.1; omega))
        have HR := Lib.hid (hO.blk HR.out (by have := hS0.out; have := hq.1; omega))
        have HM0 := Lib.hid (LRow.mv2 HM0.out hO (fun k hk => HX02.out k hk))
        have HQ0 := Lib.hid (HQ0.out.mono hO.1)
        have HM1 := Lib.hid (LRow.mv2 HM1.out hO (fun k hk => HX12.out k hk))
        have HQ1 := Lib.hid (HQ1.out.mono hO.1)
        have HM2 := Lib.hid hrow
        have HQ2 := Lib.hid (show Own (Value.slice za A.length zc) w0.heap.size v57.heap.size (fun _ => True) from fun k hk => ⟨by rcases hown k hk with e | e; (have := hq.1; omega); (have := hHeld.size; exact Nat.le_trans this e), (hrow.blk k hk).2, trivial⟩)
        have hbs := hO.2.2 (W.heap.size + 1) (by have := hS0.out; have := hq.1; omega) (by have := hS0.out; have := hHeld.size; omega)
        clear hq hrow hown hO
        refine step_app rfl (.tmp 11) (.tmp 13) 23 rfl rfl rfl HRUN.out ?_
        refine hK.out _ _ (hHeld.trans hbs) (fun hHeld => ?_)
        clear hbs HRUN
        clear hK K
        refine tk 16 hHeld ?_
        refine rd1 17 (fun K hK => ?_)
        have qHR_0 := HR.out.at_ 0 rfl
        have qHR_1 := HR.out.at_ 1 rfl
        have qHR_2 := HR.out.at_ 2 rfl
        have qHR_3 := HR.out.at_ 3 rfl
        have qHR_4 := HR.out.at_ 4 rfl
        have sHR_0 := HR.out.soft 0
        have sHR_1 := HR.out.soft 1
        have sHR_2 := HR.out.soft 2
        have sHR_3 := HR.out.soft 3
        have sHR_4 := HR.out.soft 4
        go_simp
        refine hK.out _ _ (((((hHeld.setCell (p := ⟨W.heap.size + 1, 0, none⟩) (Nat.le_refl _) (.slice xa P.length xc)).setCell (p := ⟨W.heap.size + 1, 1, none⟩) (Nat.le_refl _) (.slice ya B.length yc)).setCell (p := ⟨W.heap.size + 1, 2, none⟩) (Nat.le_refl _) (.slice za A.length zc)).setCell (p := ⟨W.heap.size + 1, 3, none⟩) (Nat.le_refl _) (.int .i64 u)).setCell (p := ⟨W.heap.size + 1, 4, none⟩) (Nat.le_refl _) (.int .i64 n)) (fun hHeld => ?_)
        clear qHR_0 sHR_0 qHR_1 sHR_1 qHR_2 sHR_2 qHR_3 sHR_3 qHR_4 sHR_4
        clear hK K
        refine rd0 ?_
        have qHR_0 := HR.out.at_ 0 rfl
        have qHR_1 := HR.out.at_ 1 rfl
        have qHR_2 := HR.out.at_ 2 rfl
        have qHR_3 := HR.out.at_ 3 rfl
        have qHR_4 := HR.out.at_ 4 rfl
        go_wp2
        refine bodyPost_ret (v := .agg #[.slice xa P.length xc, .slice ya B.length yc, .slice za A.length zc, .int .i64 u, .int .i64 n]) (by simp [results, Tryd.results28, go_sem, *]) rfl ?_
        have hoff := ((((((Off.refl (fun x => x = W.heap.size + 1) v57).setCell (p := ⟨W.heap.size + 1, 0, none⟩) (rfl) (.slice xa P.length xc)).setCell (p := ⟨W.heap.size + 1, 1, none⟩) (rfl) (.slice ya B.length yc)).setCell (p := ⟨W.heap.size + 1, 2, none⟩) (rfl) (.slice za A.length zc)).setCell (p := ⟨W.heap.size + 1, 3, none⟩) (rfl) (.int .i64 u)).setCell (p := ⟨W.heap.size + 1, 4, none⟩) (rfl) (.int .i64 n))
        have hO : But2 v57 _ (W.heap.size + 1) := ⟨hoff.size, fun k hk hne => hoff.block k hk hne, fun C hC hCw => hoff.below hCw (fun k hk => by rw [hk]; exact hC)⟩
        have hbf := HB0.out.trans (hHeld.mono (Nat.le_succ _))
        have hs := hS0.out
        exact ⟨xa, xc, ya, yc, za, zc, rfl, LRow.mv2 HM0.out hO (fun k hk => by have h1 := HQ0.out k hk; omega), LRow.mv2 HM1.out hO (fun k hk => by have h1 := HQ1.out k hk; omega), LRow.mv2 HM2.out hO (fun k hk => by have h1 := HQ2.out k hk; omega), fun k hk => ⟨fun h2 => HN01.out k hk h2, fun h2 => HN02.out k hk h2⟩, fun k hk h2 => HN12.out k hk h2, hbf⟩
    · skip
      go_simp
      obtain ⟨v59, hw⟩ : ∃ w', w' = v43.alloc (.cells #[] 48) := ⟨_, rfl⟩
      have hO : But2 v43 v59 v43.heap.size := by rw [hw]; exact But2.alloc _ _
      have hle0 : w0.heap.size ≤ v43.heap.size := hHeld.size
      have hlt0 : v43.heap.size < v59.heap.size := by rw [hw]; simp
      have hrow : LRow v59 W.heap.size (.slice (some ⟨v43.heap.size, 0, none⟩) 0 0) [] := by rw [hw]; exact (FRow.made _ _ v43 _).lower (by have := hS0.out; show W.heap.size ≤ v43.heap.size; omega)
      have HX12 := Lib.hid (show ∀ k, (Value.slice (some ⟨wd.heap.size, 0, none⟩) 0 0).ownBlock = some k → k ≠ v43.heap.size from fun k hk => Nat.ne_of_lt (HQ1.out k hk).2.1)
      have HX21 := Lib.hid (show ∀ k, (Value.slice (some ⟨v43.heap.size, 0, none⟩) 0 0).ownBlock = some k → k ≠ wd.heap.size from fun k hk => by cases hk; exact Nat.ne_of_gt HSZ1.out)
      have HR := Lib.hid (hO.blk HR.out (by have := hS0.out; omega))
      have HM1 := Lib.hid (LRow.mv2 HM1.out hO (fun k hk => HX12.out k hk))
      have HQ1 := Lib.hid (HQ1.out.mono hO.1)
      have HSZ1 := Lib.hid (Nat.lt_of_lt_of_le HSZ1.out hO.1)
      have HM2 := Lib.hid hrow
      have HQ2 := Lib.hid (own_mk v43.heap.size 0 hle0 hlt0)
      have HSZ2 := Lib.hid hlt0
      have hbs := hO.2.2 (W.heap.size + 1) (by have := hS0.out; omega) (by have := hS0.out; show _ ≤ v43.heap.size; omega)
      rw [← hw]
      clear hw hrow hlt0
      refine hK.out _ _ (hHeld.trans hbs) (fun hHeld => ?_)
      clear hO hle0 hbs
      clear hK K
      refine rd1 0 (fun K hK => ?_)
      go_simp
      obtain ⟨v60, hw⟩ : ∃ w', w' = v59.alloc (.cells #[] 48) := ⟨_, rfl⟩
      have hO : But2 v59 v60 v59.heap.size := by rw [hw]; exact But2.alloc _ _
      have hle0 : w0.heap.size ≤ v59.heap.size := hHeld.size
      have hlt0 : v59.heap.size < v60.heap.size := by rw [hw]; simp
      have hrow : LRow v60 W.heap.size (.slice (some ⟨v59.heap.size, 0, none⟩) 0 0) [] := by rw [hw]; exact (FRow.made _ _ v59 _).lower (by have := hS0.out; show W.heap.size ≤ v59.heap.size; omega)
      have HX10 := Lib.hid (show ∀ k, (Value.slice (some ⟨wd.heap.size, 0, none⟩) 0 0).ownBlock = some k → k ≠ v59.heap.size from fun k hk => Nat.ne_of_lt (HQ1.out k hk).2.1)
      have HX01 := Lib.hid (show ∀ k, (Value.slice (some ⟨v59.heap.size, 0, none⟩) 0 0).ownBlock = some k → k ≠ wd.heap.size from fun k hk => by cases hk; exact Nat.ne_of_gt HSZ1.out)
      have HX20 := Lib.hid (show ∀ k, (Value.slice (some ⟨v43.heap.size, 0, none⟩) 0 0).ownBlock = some k → k ≠ v59.heap.size from fun k hk => Nat.ne_of_lt (HQ2.out k hk).2.1)
      have HX02 := Lib.hid (show ∀ k, (Value.slice (some ⟨v59.heap.size, 0, none⟩) 0 0).ownBlock = some k → k ≠ v43.heap.size from fun k hk => by cases hk; exact Nat.ne_of_gt HSZ2.out)
      have HR := Lib.hid (hO.blk HR.out (by have := hS0.out; omega))
      have HM1 := Lib.hid (LRow.mv2 HM1.out hO (fun k hk => HX10.out k hk))
      have HQ1 := Lib.hid (HQ1.out.mono hO.1)
      have HSZ1 := Lib.hid (Nat.lt_of_lt_of_le HSZ1.out hO.1)
      have HM2 := Lib.hid (LRow.mv2 HM2.out hO (fun k hk => HX20.out k hk))
      have HQ2 := Lib.hid (HQ2.out.mono hO.1)
      have HSZ2 := Lib.hid (Nat.lt_of_lt_of_le HSZ2.out hO.1)
      have HM0 := Lib.hid hrow
      have HQ0 := Lib.hid (own_mk v59.heap.size 0 hle0 hlt0)
      have HSZ0 := Lib.hid hlt0
      have hbs := hO.2.2 (W.heap.size + 1) (by have := hS0.out; omega) (by have := hS0.out; show _ ≤ v59.heap.size; omega)
      rw [← hw]
      clear hw hrow hlt0
      refine hK.out _ _ (hHeld.trans hbs) (fun hHeld => ?_)
      clear hO hle0 hbs
      clear hK K
      refine rd1 3 (fun K hK => ?_)
      have hq := HQ0.out _ rfl
      obtain ⟨xa, xc, v61, hr, hrow, hO, hown⟩ := LRow.grow HM0.out (g := v59.heap.size) (fun k hk => (HQ0.out k hk).2.2) hq.2.1 ((HP.out.below R_Letter_ok (HB0.out.trans (hHeld.mono (Nat.le_succ _)))).more R_Letter_ok (HB0.out.trans (hHeld.mono (Nat.le_succ _))).size) (by have := hS0.out; have := hq.1; omega) (by have := hlen.1; simp only [List.length_nil]; omega)
      simp only [List.nil_append, List.length_nil] at hr hrow hown
      have HRUN := Lib.hid hr
      clear hr
      have HX01 := Lib.hid (show ∀ k, (Value.slice xa P.length xc).ownBlock = some k → k ≠ wd.heap.size from fun k hk e => by rcases hown k hk with e2 | e2; (have h1 := HX01.out _ rfl; omega); (have h3 := HSZ1.out; omega))
      have HX02 := Lib.hid (show ∀ k, (Value.slice xa P.length xc).ownBlock = some k → k ≠ v43.heap.size from fun k hk e => by rcases hown k hk with e2 | e2; (have h1 := HX02.out _ rfl; omega); (have h3 := HSZ2.out; omega))
      have HR := Lib.hid (hO.blk HR.out (by have := hS0.out; have := hq.1; omega))
      have HM1 := Lib.hid (LRow.mv2 HM1.out hO (fun k hk => HX10.out k hk))
      have HQ1 := Lib.hid (HQ1.out.mono hO.1)
      have HM2 := Lib.hid (LRow.mv2 HM2.out hO (fun k hk => HX20.out k hk))
      have HQ2 := Lib.hid (HQ2.out.mono hO.1)
      have HM0 := Lib.hid hrow
      have HQ0 := Lib.hid (show Own (Value.slice xa P.length xc) w0.heap.size v61.heap.size (fun _ => True) from fun k hk => ⟨by rcases hown k hk with e | e; (have := hq.1; omega); (have := hHeld.size; exact Nat.le_trans this e), (hrow.blk k hk).2, trivial⟩)
      have HSZ1 := Lib.hid (Nat.lt_of_lt_of_le HSZ1.out hO.1)
      have HSZ2 := Lib.hid (Nat.lt_of_lt_of_le HSZ2.out hO.1)
      have hbs := hO.2.2 (W.heap.size + 1) (by have := hS0.out; have := hq.1; omega) (by have := hS0.out; have := hHeld.size; omega)
      clear hq hrow hown hO
      refine step_app rfl (.tmp 3) (.tmp 5) 23 rfl rfl rfl HRUN.out ?_
      refine hK.out _ _ (hHeld.trans hbs) (fun hHeld => ?_)
      clear hbs HRUN
      clear hK K
      refine rd1 7 (fun K hK => ?_)
      have hq := HQ1.out _ rfl
      obtain ⟨ya, yc, v62, hr, hrow, hO, hown⟩ := LRow.grow HM1.out (g := wd.heap.size) (fun k hk => (HQ1.out k hk).2.2) hq.2.1 ((HBB.out.below R_Letter_ok (HB0.out.trans (hHeld.mono (Nat.le_succ _)))).more R_Letter_ok (HB0.out.trans (hHeld.mono (Nat.le_succ _))).size) (by have := hS0.out; have := hq.1; omega) (by have := hlen.2.1; simp only [List.length_nil]; omega)
      simp only [List.nil_append, List.length_nil] at hr hrow hown
      have HRUN := Lib.hid hr
      clear hr
      have HN01 := Lib.hid (show ∀ k, (Value.slice xa P.length xc).ownBlock = some k → (Value.slice ya B.length yc).ownBlock = some k → False from fun k hk h2 => by rcases hown k h2 with e | e; exact HX01.out k hk e; (have h1 := (HQ0.out k hk).2.1; omega))
      have HX12 := Lib.hid (show ∀ k, (Value.slice ya B.length yc).ownBlock = some k → k ≠ v43.heap.size from fun k hk e => by rcases hown k hk with e2 | e2; (have h1 := HX12.out _ rfl; omega); (have h3 := HSZ2.out; omega))
      have HR := Lib.hid (hO.blk HR.out (by have := hS0.out; have := hq.1; omega))
      have HM0 := Lib.hid (LRow.mv2 HM0.out hO (fun k hk => HX01.out k hk))
      have HQ0 := Lib.hid (HQ0.out.mono hO.1)
      have HM2 := Lib.hid (LRow.mv2 HM2.out hO (fun k hk => HX21.out k hk))
      have HQ2 := Lib.hid (HQ2.out.mono hO.1)
      have HM1 := Lib.hid hrow
      have HQ1 := Lib.hid (show Own (Value.slice ya B.length yc) w0.heap.size v62.heap.size (fun _ => True) from fun k hk => ⟨by rcases hown k hk with e | e; (have := hq.1; omega); (have := hHeld.size; exact Nat.le_trans this e), (hrow.blk k hk).2, trivial⟩)
      have HSZ2 := Lib.hid (Nat.lt_of_lt_of_le HSZ2.out hO.1)
      have hbs := hO.2.2 (W.heap.size + 1) (by have := hS0.out; have := hq.1; omega) (by have := hS0.out; have := hHeld.size; omega)
      clear hq hrow hown hO
      refine step_app rfl (.tmp 7) (.tmp 9) 23 rfl rfl rfl HRUN.out ?_
      refine hK.out _ _ (hHeld.trans hbs) (fun hHeld => ?_)
      clear hbs HRUN
      clear hK K
      refine rd1 11 (fun K hK => ?_)
      have hq := HQ2.out _ rfl
      obtain ⟨za, zc, v63, hr, hrow, hO, hown⟩ := LRow.grow HM2.out (g := v43.heap.size) (fun k hk => (HQ2.out k hk).2.2) hq.2.1 ((HA.out.below R_Letter_ok (HB0.out.trans (hHeld.mono (Nat.le_succ _)))).more R_Letter_ok (HB0.out.trans (hHeld.mono (Nat.le_succ _))).size) (by have := hS0.out; have := hq.1; omega) (by have := hlen.2.2; simp only [List.length_nil]; omega)
      simp only [List.nil_append, List.length_nil] at hr hrow hown
      have HRUN := Lib.hid hr
      clear hr
      have HN02 := Lib.hid (show ∀ k, (Value.slice xa P.length xc).ownBlock = some k → (Value.slice za A.length zc).ownBlock = some k → False from fun k hk h2 => by rcases hown k h2 with e | e; exact HX02.out k hk e; (have h1 := (HQ0.out k hk).2.1; omega))
      have HN12 := Lib.hid (show ∀ k, (Value.slice ya B.length yc).ownBlock = some k → (Value.slice za A.length zc).ownBlock = some k → False from fun k hk h2 => by rcases hown k h2 with e | e; exact HX12.out k hk e; (have h1 := (HQ1.out k hk).2.1; omega))
      have HR := Lib.hid (hO.blk HR.out (by have := hS0.out; have := hq.1; omega))
      have HM0 := Lib.hid (LRow.mv2 HM0.out hO (fun k hk => HX02.out k hk))
      have HQ0 := Lib.hid (HQ0.out.mono hO.1)
      have HM1 := Lib.hid (LRow.mv2 HM1.out hO (fun k hk => HX12.out k hk))
      have HQ1 := Lib.hid (HQ1.out.mono hO.1)
      have HM2 := Lib.hid hrow
      have HQ2 := Lib.hid (show Own (Value.slice za A.length zc) w0.heap.size v63.heap.size (fun _ => True) from fun k hk => ⟨by rcases hown k hk with e | e; (have := hq.1; omega); (have := hHeld.size; exact Nat.le_trans this e), (hrow.blk k hk).2, trivial⟩)
      have hbs := hO.2.2 (W.heap.size + 1) (by have := hS0.out; have := hq.1; omega) (by have := hS0.out; have := hHeld.size; omega)
      clear hq hrow hown hO
      refine step_app rfl (.tmp 11) (.tmp 13) 23 rfl rfl rfl HRUN.out ?_
      refine hK.out _ _ (hHeld.trans hbs) (fun hHeld => ?_)
      clear hbs HRUN
      clear hK K
      refine tk 16 hHeld ?_
      refine rd1 17 (fun K hK => ?_)
      have qHR_0 := HR.out.at_ 0 rfl
      have qHR_1 := HR.out.at_ 1 rfl
      have qHR_2 := HR.out.at_ 2 rfl
      have qHR_3 := HR.out.at_ 3 rfl
      have qHR_4 := HR.out.at_ 4 rfl
      have sHR_0 := HR.out.soft 0
      have sHR_1 := HR.out.soft 1
      have sHR_2 := HR.out.soft 2
      have sHR_3 := HR.out.soft 3
      have sHR_4 := HR.out.soft 4
      go_simp
      refine hK.out _ _ (((((hHeld.setCell (p := ⟨W.heap.size + 1, 0, none⟩) (Nat.le_refl _) (.slice xa P.length xc)).setCell (p := ⟨W.heap.size + 1, 1, none⟩) (Nat.le_refl _) (.slice ya B.length yc)).setCell (p := ⟨W.heap.size + 1, 2, none⟩) (Nat.le_refl _) (.slice za A.length zc)).setCell (p := ⟨W.heap.size + 1, 3, none⟩) (Nat.le_refl _) (.int .i64 u)).setCell (p := ⟨W.heap.size + 1, 4, none⟩) (Nat.le_refl _) (.int .i64 n)) (fun hHeld => ?_)
      clear qHR_0 sHR_0 qHR_1 sHR_1 qHR_2 sHR_2 qHR_3 sHR_3 qHR_4 sHR_4
      clear hK K
      refine rd0 ?_
      have qHR_0 := HR.out.at_ 0 rfl
      have qHR_1 := HR.out.at_ 1 rfl
      have qHR_2 := HR.out.at_ 2 rfl
      have qHR_3 := HR.out.at_ 3 rfl
      have qHR_4 := HR.out.at_ 4 rfl
      go_wp2
      refine bodyPost_ret (v := .agg #[.slice xa P.length xc, .slice ya B.length yc, .slice za A.length zc, .int .i64 u, .int .i64 n]) (by simp [results, Tryd.results28, go_sem, *]) rfl ?_
      have hoff := ((((((Off.refl (fun x => x = W.heap.size + 1) v63).setCell (p := ⟨W.heap.size + 1, 0, none⟩) (rfl) (.slice xa P.length xc)).setCell (p := ⟨W.heap.size + 1, 1, none⟩) (rfl) (.slice ya B.length yc)).setCell (p := ⟨W.heap.size + 1, 2, none⟩) (rfl) (.slice za A.length zc)).setCell (p := ⟨W.heap.size + 1, 3, none⟩) (rfl) (.int .i64 u)).setCell (p := ⟨W.heap.size + 1, 4, none⟩) (rfl) (.int .i64 n))
      have hO : But2 v63 _ (W.heap.size + 1) := ⟨hoff.size, fun k hk hne => hoff.block k hk hne, fun C hC hCw => hoff.below hCw (fun k hk => by rw [hk]; exact hC)⟩
      have hbf := HB0.out.trans (hHeld.mono (Nat.le_succ _))
      have hs := hS0.out
      exact ⟨xa, xc, ya, yc, za, zc, rfl, LRow.mv2 HM0.out hO (fun k hk => by have h1 := HQ0.out k hk; omega), LRow.mv2 HM1.out hO (fun k hk => by have h1 := HQ1.out k hk; omega), LRow.mv2 HM2.out hO (fun k hk => by have h1 := HQ2.out k hk; omega), fun k hk => ⟨fun h2 => HN01.out k hk h2, fun h2 => HN02.out k hk h2⟩, fun k hk h2 => HN12.out k hk h2, hbf⟩
  · skip
    go_simp
    obtain ⟨v65, hw⟩ : ∃ w', w' = wd.alloc (.cells #[] 48) := ⟨_, rfl⟩
    have hO : But2 wd v65 wd.heap.size := by rw [hw]; exact But2.alloc _ _
    have hle0 : w0.heap.size ≤ wd.heap.size := hHeld.size
    have hlt0 : wd.heap.size < v65.heap.size := by rw [hw]; simp
    have hrow : LRow v65 W.heap.size (.slice (some ⟨wd.heap.size, 0, none⟩) 0 0) [] := by rw [hw]; exact (FRow.made _ _ wd _).lower (by have := hS0.out; show W.heap.size ≤ wd.heap.size; omega)
    have HR := Lib.hid (hO.blk HR.out (by have := hS0.out; omega))
    have HM2 := Lib.hid hrow
    have HQ2 := Lib.hid (own_mk wd.heap.size 0 hle0 hlt0)
    have HSZ2 := Lib.hid hlt0
    have hbs := hO.2.2 (W.heap.size + 1) (by have := hS0.out; omega) (by have := hS0.out; show _ ≤ wd.heap.size; omega)
    rw [← hw]
    clear hw hrow hlt0
    refine hK.out _ _ (hHeld.trans hbs) (fun hHeld => ?_)
    clear hO hle0 hbs
    clear hK K
    refine rd2 0 4 (fun K hK => ?_) (fun K hK => ?_)
    · skip
      go_simp
      obtain ⟨v66, hw⟩ : ∃ w', w' = v65.alloc (.cells #[] 48) := ⟨_, rfl⟩
      have hO : But2 v65 v66 v65.heap.size := by rw [hw]; exact But2.alloc _ _
      have hle0 : w0.heap.size ≤ v65.heap.size := hHeld.size
      have hlt0 : v65.heap.size < v66.heap.size := by rw [hw]; simp
      have hrow : LRow v66 W.heap.size (.slice (some ⟨v65.heap.size, 0, none⟩) 0 0) [] := by rw [hw]; exact (FRow.made _ _ v65 _).lower (by have := hS0.out; show W.heap.size ≤ v65.heap.size; omega)
      have HX20 := Lib.hid (show ∀ k, (Value.slice (some ⟨wd.heap.size, 0, none⟩) 0 0).ownBlock = some k → k ≠ v65.heap.size from fun k hk => Nat.ne_of_lt (HQ2.out k hk).2.1)
      have HX02 := Lib.hid (show ∀ k, (Value.slice (some ⟨v65.heap.size, 0, none⟩) 0 0).ownBlock = some k → k ≠ wd.heap.size from fun k hk => by cases hk; exact Nat.ne_of_gt HSZ2.out)
      have HR := Lib.hid (hO.blk HR.out (by have := hS0.out; omega))
      have HM2 := Lib.hid (LRow.mv2 HM2.out hO (fun k hk => HX20.out k hk))
      have HQ2 := Lib.hid (HQ2.out.mono hO.1)
      have HSZ2 := Lib.hid (Nat.lt_of_lt_of_le HSZ2.out hO.1)
      have HM0 := Lib.hid hrow
      have HQ0 := Lib.hid (own_mk v65.heap.size 0 hle0 hlt0)
      have HSZ0 := Lib.hid hlt0
      have hbs := hO.2.2 (W.heap.size + 1) (by have := hS0.out; omega) (by have := hS0.out; show _ ≤ v65.heap.size; omega)
      rw [← hw]
      clear hw hrow hlt0
      refine hK.out _ _ (hHeld.trans hbs) (fun hHeld => ?_)
      clear hO hle0 hbs
      clear hK K
      refine rd2 3 4 (fun K hK => ?_) (fun K hK => ?_)
      · skip
        have hq := HQ0.out _ rfl
        obtain ⟨xa, xc, v67, hr, hrow, hO, hown⟩ := LRow.grow HM0.out (g := v65.heap.size) (fun k hk => (HQ0.out k hk).2.2) hq.2.1 ((HP.out.below R_Letter_ok (HB0.out.trans (hHeld.mono (Nat.le_succ _)))).more R_Letter_ok (HB0.out.trans (hHeld.mono (Nat.le_succ _))).size) (by have := hS0.out; have := hq.1; omega) (by have := hlen.1; simp only [List.length_nil]; omega)
        simp only [List.nil_append, List.length_nil] at hr hrow hown
        have HRUN := Lib.hid hr
        clear hr
        have HX02 := Lib.hid (show ∀ k, (Value.slice xa P.length xc).ownBlock = some k → k ≠ wd.heap.size from fun k hk e => by rcases hown k hk with e2 | e2; (have h1 := HX02.out _ rfl; omega); (have h3 := HSZ2.out; omega))
        have HR := Lib.hid (hO.blk HR.out (by have := hS0.out; have := hq.1; omega))
        have HM2 := Lib.hid (LRow.mv2 HM2.out hO (fun k hk => HX20.out k hk))
        have HQ2 := Lib.hid (HQ2.out.mono hO.1)
        have HM0 := Lib.hid hrow
        have HQ0 := Lib.hid (show Own (Value.slice xa P.length xc) w0.heap.size v67.heap.size (fun _ => True) from fun k hk => ⟨by rcases hown k hk with e | e; (have := hq.1; omega); (have := hHeld.size; exact Nat.le_trans this e), (hrow.blk k hk).2, trivial⟩)
        have HSZ2 := Lib.hid (Nat.lt_of_lt_of_le HSZ2.out hO.1)
        have hbs := hO.2.2 (W.heap.size + 1) (by have := hS0.out; have := hq.1; omega) (by have := hS0.out; have := hHeld.size; omega)
        clear hq hrow hown hO
        refine step_app rfl (.tmp 3) (.tmp 5) 23 rfl rfl rfl HRUN.out ?_
        refine hK.out _ _ (hHeld.trans hbs) (fun hHeld => ?_)
        clear hbs HRUN
        clear hK K
        refine rd1 4 (fun K hK => ?_)
        go_simp
        obtain ⟨v68, hw⟩ : ∃ w', w' = v67.alloc (.cells #[] 48) := ⟨_, rfl⟩
        have hO : But2 v67 v68 v67.heap.size := by rw [hw]; exact But2.alloc _ _
        have hle0 : w0.heap.size ≤ v67.heap.size := hHeld.size
        have hlt0 : v67.heap.size < v68.heap.size := by rw [hw]; simp
        have hrow : LRow v68 W.heap.size (.slice (some ⟨v67.heap.size, 0, none⟩) 0 0) [] := by rw [hw]; exact (FRow.made _ _ v67 _).lower (by have := hS0.out; show W.heap.size ≤ v67.heap.size; omega)
        have HX21 := Lib.hid (show ∀ k, (Value.slice (some ⟨wd.heap.size, 0, none⟩) 0 0).ownBlock = some k → k ≠ v67.heap.size from fun k hk => Nat.ne_of_lt (HQ2.out k hk).2.1)
        have HX12 := Lib.hid (show ∀ k, (Value.slice (some ⟨v67.heap.size, 0, none⟩) 0 0).ownBlock = some k → k ≠ wd.heap.size from fun k hk => by cases hk; exact Nat.ne_of_gt HSZ2.out)
        have HX01 := Lib.hid (show ∀ k, (Value.slice xa P.length xc).ownBlock = some k → k ≠ v67.heap.size from fun k hk => Nat.ne_of_lt (HQ0.out k hk).2.1)
        have HR := Lib.hid (hO.blk HR.out (by have := hS0.out; omega))
        have HM2 := Lib.hid (LRow.mv2 HM2.out hO (fun k hk => HX21.out k hk))
        have HQ2 := Lib.hid (HQ2.out.mono hO.1)
        have HSZ2 := Lib.hid (Nat.lt_of_lt_of_le HSZ2.out hO.1)
        have HM0 := Lib.hid (LRow.mv2 HM0.out hO (fun k hk => HX01.out k hk))
        have HQ0 := Lib.hid (HQ0.out.mono hO.1)
        have HM1 := Lib.hid hrow
        have HQ1 := Lib.hid (own_mk v67.heap.size 0 hle0 hlt0)
        have HSZ1 := Lib.hid hlt0
        have hbs := hO.2.2 (W.heap.size + 1) (by have := hS0.out; omega) (by have := hS0.out; show _ ≤ v67.heap.size; omega)
        rw [← hw]
        clear hw hrow hlt0
        refine hK.out _ _ (hHeld.trans hbs) (fun hHeld => ?_)
        clear hO hle0 hbs
        clear hK K
        refine rd1 7 (fun K hK => ?_)
        have hq := HQ1.out _ rfl
        obtain ⟨ya, yc, v69, hr, hrow, hO, hown⟩ := LRow.grow HM1.out (g := v67.heap.size) (fun k hk => (HQ1.out k hk).2.2) hq.2.1 ((HBB.out.below R_Letter_ok (HB0.out.trans (hHeld.mono (Nat.le_succ _)))).more R_Letter_ok (HB0.out.trans (hHeld.mono (Nat.le_succ _))).size) (by have := hS0.out; have := hq.1; omega) (by have := hlen.2.1; simp only [List.length_nil]; omega)
        simp only [List.nil_append, List.length_nil] at hr hrow hown
        have HRUN := Lib.hid hr
        clear hr
        have HN01 := Lib.hid (show ∀ k, (Value.slice xa P.length xc).ownBlock = some k → (Value.slice ya B.length yc).ownBlock = some k → False from fun k hk h2 => by rcases hown k h2 with e | e; exact HX01.out k hk e; (have h1 := (HQ0.out k hk).2.1; omega))
        have HX12 := Lib.hid (show ∀ k, (Value.slice ya B.length yc).ownBlock = some k → k ≠ wd.heap.size from fun k hk e => by rcases hown k hk with e2 | e2; (have h1 := HX12.out _ rfl; omega); (have h3 := HSZ2.out; omega))
        have HR := Lib.hid (hO.blk HR.out (by have := hS0.out; have := hq.1; omega))
        have HM0 := Lib.hid (LRow.mv2 HM0.out hO (fun k hk => HX01.out k hk))
        have HQ0 := Lib.hid (HQ0.out.mono hO.1)
        have HM2 := Lib.hid (LRow.mv2 HM2.out hO (fun k hk => HX21.out k hk))
        have HQ2 := Lib.hid (HQ2.out.mono hO.1)
        have HM1 := Lib.hid hrow
        have HQ1 := Lib.hid (show Own (Value.slice ya B.length yc) w0.heap.size v69.heap.size (fun _ => True) from fun k hk => ⟨by rcases hown k hk with e | e; (have := hq.1; omega); (have := hHeld.size; exact Nat.le_trans this e), (hrow.blk k hk).2, trivial⟩)
        have HSZ2 := Lib.hid (Nat.lt_of_lt_of_le HSZ2.out hO.1)
        have hbs := hO.2.2 (W.heap.size + 1) (by have := hS0.out; have := hq.1; omega) (by have := hS0.out; have := hHeld.size; omega)
        clear hq hrow hown hO
        refine step_app rfl (.tmp 7) (.tmp 9) 23 rfl rfl rfl HRUN.out ?_
        refine hK.out _ _ (hHeld.trans hbs) (fun hHeld => ?_)
        clear hbs HRUN
        clear hK K
        refine rd1 11 (fun K hK => ?_)
        have hq := HQ2.out _ rfl
        obtain ⟨za, zc, v70, hr, hrow, hO, hown⟩ := LRow.grow HM2.out (g := wd.heap.size) (fun k hk => (HQ2.out k hk).2.2) hq.2.1 ((HA.out.below R_Letter_ok (HB0.out.trans (hHeld.mono (Nat.le_succ _)))).more R_Letter_ok (HB0.out.trans (hHeld.mono (Nat.le_succ _))).size) (by have := hS0.out; have := hq.1; omega) (by have := hlen.2.2; simp only [List.length_nil]; omega)
        simp only [List.nil_append, List.length_nil] at hr hrow hown
        have HRUN := Lib.hid hr
        clear hr
        have HN02 := Lib.hid (show ∀ k, (Value.slice xa P.length xc).ownBlock = some k → (Value.slice za A.length zc).ownBlock = some k → False from fun k hk h2 => by rcases hown k h2 with e | e; exact HX02.out k hk e; (have h1 := (HQ0.out k hk).2.1; omega))
        have HN12 := Lib.hid (show ∀ k, (Value.slice ya B.length yc).ownBlock = some k → (Value.slice za A.length zc).ownBlock = some k → False from fun k hk h2 => by rcases hown k h2 with e | e; exact HX12.out k hk e; (have h1 := (HQ1.out k hk).2.1; omega))
        have HR := Lib.hid (hO.blk HR.out (by have := hS0.out; have := hq.1; omega))
        have HM0 := Lib.hid (LRow.mv2 HM0.out hO (fun k hk => HX02.out k hk))
        have HQ0 := Lib.hid (HQ0.out.mono hO.1)
        have HM1 := Lib.hid (LRow.mv2 HM1.out hO (fun k hk => HX12.out k hk))
        have HQ1 := Lib.hid (HQ1.out.mono hO.1)
        have HM2 := Lib.hid hrow
        have HQ2 := Lib.hid (show Own (Value.slice za A.length zc) w0.heap.size v70.heap.size (fun _ => True) from fun k hk => ⟨by rcases hown k hk with e | e; (have := hq.1; omega); (have := hHeld.size; exact Nat.le_trans this e), (hrow.blk k hk).2, trivial⟩)
        have hbs := hO.2.2 (W.heap.size + 1) (by have := hS0.out; have := hq.1; omega) (by have := hS0.out; have := hHeld.size; omega)
        clear hq hrow hown hO
        refine step_app rfl (.tmp 11) (.tmp 13) 23 rfl rfl rfl HRUN.out ?_
        refine hK.out _ _ (hHeld.trans hbs) (fun hHeld => ?_)
        clear hbs HRUN
        clear hK K
        refine tk 16 hHeld ?_
        refine rd1 17 (fun K hK => ?_)
        have qHR_0 := HR.out.at_ 0 rfl
        have qHR_1 := HR.out.at_ 1 rfl
        have qHR_2 := HR.out.at_ 2 rfl
        have qHR_3 := HR.out.at_ 3 rfl
        have qHR_4 := HR.out.at_ 4 rfl
        have sHR_0 := HR.out.soft 0
        have sHR_1 := HR.out.soft 1
        have sHR_2 := HR.out.soft 2
        have sHR_3 := HR.out.soft 3
        have sHR_4 := HR.out.soft 4
        go_simp
        refine hK.out _ _ (((((hHeld.setCell (p := ⟨W.heap.size + 1, 0, none⟩) (Nat.le_refl _) (.slice xa P.length xc)).setCell (p := ⟨W.heap.size + 1, 1, none⟩) (Nat.le_refl _) (.slice ya B.length yc)).setCell (p := ⟨W.heap.size + 1, 2, none⟩) (Nat.le_refl _) (.slice za A.length zc)).setCell (p := ⟨W.heap.size + 1, 3, none⟩) (Nat.le_refl _) (.int .i64 u)).setCell (p := ⟨W.heap.size + 1, 4, none⟩) (Nat.le_refl _) (.int .i64 n)) (fun hHeld => ?_)
        clear qHR_0 sHR_0 qHR_1 sHR_1 qHR_2 sHR_2 qHR_3 sHR_3 qHR_4 sHR_4
        clear hK K
        refine rd0 ?_
        have qHR_0 := HR.out.at_ 0 rfl
        have qHR_1 := HR.out.at_ 1 rfl
        have qHR_2 := HR.out.at_ 2 rfl
        have qHR_3 := HR.out.at_ 3 rfl
        have qHR_4 := HR.out.at_ 4 rfl
        go_wp2
        refine bodyPost_ret (v := .agg #[.slice xa P.length xc, .slice ya B.length yc, .slice za A.length zc, .int .i64 u, .int .i64 n]) (by simp [results, Tryd.results28, go_sem, *]) rfl ?_
        have hoff := ((((((Off.refl (fun x => x = W.heap.size + 1) v70).setCell (p := ⟨W.heap.size + 1, 0, none⟩) (rfl) (.slice xa P.length xc)).setCell (p := ⟨W.heap.size + 1, 1, none⟩) (rfl) (.slice ya B.length yc)).setCell (p := ⟨W.heap.size + 1, 2, none⟩) (rfl) (.slice za A.length zc)).setCell (p := ⟨W.heap.size + 1, 3, none⟩) (rfl) (.int .i64 u)).setCell (p := ⟨W.heap.size + 1, 4, none⟩) (rfl) (.int .i64 n))
        have hO : But2 v70 _ (W.heap.size + 1) := ⟨hoff.size, fun k hk hne => hoff.block k hk hne, fun C hC hCw => hoff.below hCw (fun k hk => by rw [hk]; exact hC)⟩
        have hbf := HB0.out.trans (hHeld.mono (Nat.le_succ _))
        have hs := hS0.out
        exact ⟨xa, xc, ya, yc, za, zc, rfl, LRow.mv2 HM0.out hO (fun k hk => by have h1 := HQ0.out k hk; omega), LRow.mv2 HM1.out hO (fun k hk => by have h1 := HQ1.out k hk; omega), LRow.mv2 HM2.out hO (fun k hk => by have h1 := HQ2.out k hk; omega), fun k hk => ⟨fun h2 => HN01.out k hk h2, fun h2 => HN02.out k hk h2⟩, fun k hk h2 => HN12.out k hk h2, hbf⟩
      · skip
        go_simp
        obtain ⟨v72, hw⟩ : ∃ w', w' = v66.alloc (.cells #[] 48) := ⟨_, rfl⟩
        have hO : But2 v66 v72 v66.heap.size := by rw [hw]; exact But2.alloc _ _
        have hle0 : w0.heap.size ≤ v66.heap.size := hHeld.size
        have hlt0 : v66.heap.size < v72.heap.size := by rw [hw]; simp
        have hrow : LRow v72 W.heap.size (.slice (some ⟨v66.heap.size, 0, none⟩) 0 0) [] := by rw [hw]; exact (FRow.made _ _ v66 _).lower (by have := hS0.out; show W.heap.size ≤ v66.heap.size; omega)
        have HX21 := Lib.hid (show ∀ k, (Value.slice (some ⟨wd.heap.size, 0, none⟩) 0 0).ownBlock = some k → k ≠ v66.heap.size from fun k hk => Nat.ne_of_lt (HQ2.out k hk).2.1)
        have HX12 := Lib.hid (show ∀ k, (Value.slice (some ⟨v66.heap.size, 0, none⟩) 0 0).ownBlock = some k → k ≠ wd.heap.size from fun k hk => by cases hk; exact Nat.ne_of_gt HSZ2.out)
        have HX01 := Lib.hid (show ∀ k, (Value.slice (some ⟨v65.heap.size, 0, none⟩) 0 0).ownBlock = some k → k ≠ v66.heap.size from fun k hk => Nat.ne_of_lt (HQ0.out k hk).2.1)
        have HX10 := Lib.hid (show ∀ k, (Value.slice (some ⟨v66.heap.size, 0, none⟩) 0 0).ownBlock = some k → k ≠ v65.heap.size from fun k hk => by cases hk; exact Nat.ne_of_gt HSZ0.out)
        have HR := Lib.hid (hO.blk HR.out (by have := hS0.out; omega))
        have HM2 := Lib.hid (LRow.mv2 HM2.out hO (fun k hk => HX21.out k hk))
        have HQ2 := Lib.hid (HQ2.out.mono hO.1)
        have HSZ2 := Lib.hid (Nat.lt_of_lt_of_le HSZ2.out hO.1)
        have HM0 := Lib.hid (LRow.mv2 HM0.out hO (fun k hk => HX01.out k hk))
        have HQ0 := Lib.hid (HQ0.out.mono hO.1)
        have HSZ0 := Lib.hid (Nat.lt_of_lt_of_le HSZ0.out hO.1)
        have HM1 := Lib.hid hrow
        have HQ1 := Lib.hid (own_mk v66.heap.size 0 hle0 hlt0)
        have HSZ1 := Lib.hid hlt0
        have hbs := hO.2.2 (W.heap.size + 1) (by have := hS0.out; omega) (by have := hS0.out; show _ ≤ v66.heap.size; omega)
        rw [← hw]
        clear hw hrow hlt0
        refine hK.out _ _ (hHeld.trans hbs) (fun hHeld => ?_)
        clear hO hle0 hbs
        clear hK K
        refine rd1 3 (fun K hK => ?_)
        have hq := HQ0.out _ rfl
        obtain ⟨xa, xc, v73, hr, hrow, hO, hown⟩ := LRow.grow HM0.out (g := v65.heap.size) (fun k hk => (HQ0.out k hk).2.2) hq.2.1 ((HP.out.below R_Letter_ok (HB0.out.trans (hHeld.mono (Nat.le_succ _)))).more R_Letter_ok (HB0.out.trans (hHeld.mono (Nat.le_succ _))).size) (by have := hS0.out; have := hq.1; omega) (by have := hlen.1; simp only [List.length_nil]; omega)
        simp only [List.nil_append, List.length_nil] at hr hrow hown
        have HRUN := Lib.hid hr
        clear hr
        have HX02 := Lib.hid (show ∀ k, (Value.slice xa P.length xc).ownBlock = some k → k ≠ wd.heap.size from fun k hk e => by rcases hown k hk with e2 | e2; (have h1 := HX02.out _ rfl; omega); (have h3 := HSZ2.out; omega))
        have HX01 := Lib.hid (show ∀ k, (Value.slice xa P.length xc).ownBlock = some k → k ≠ v66.heap.size from fun k hk e => by rcases hown k hk with e2 | e2; (have h1 := HX01.out _ rfl; omega); (have h3 := HSZ1.out; omega))
        have HR := Lib.hid (hO.blk HR.out (by have := hS0.out; have := hq.1; omega))
        have HM2 := Lib.hid (LRow.mv2 HM2.out hO (fun k hk => HX20.out k hk))
        have HQ2 := Lib.hid (HQ2.out.mono hO.1)
        have HM1 := Lib.hid (LRow.mv2 HM1.out hO (fun k hk => HX10.out k hk))
        have HQ1 := Lib.hid (HQ1.out.mono hO.1)
        have HM0 := Lib.hid hrow
        have HQ0 := Lib.hid (show Own (Value.slice xa P.length xc) w0.heap.size v73.heap.size (fun _ => True) from fun k hk => ⟨by rcases hown k hk with e | e; (have := hq.1; omega); (have := hHeld.size; exact Nat.le_trans this e), (hrow.blk k hk).2, trivial⟩)
        have HSZ2 := Lib.hid (Nat.lt_of_lt_of_le HSZ2.out hO.1)
        have HSZ1 := Lib.hid (Nat.lt_of_lt_of_le HSZ1.out hO.1)
        have hbs := hO.2.2 (W.heap.size + 1) (by have := hS0.out; have := hq.1; omega) (by have := hS0.out; have := hHeld.size; omega)
        clear hq hrow hown hO
        refine step_app rfl (.tmp 3) (.tmp 5) 23 rfl rfl rfl HRUN.out ?_
        refine hK.out _ _ (hHeld.trans hbs) (fun hHeld => ?_)
        clear hbs HRUN
        clear hK K
        refine rd1 7 (fun K hK => ?_)
        have hq := HQ1.out _ rfl
        obtain ⟨ya, yc, v74, hr, hrow, hO, hown⟩ := LRow.grow HM1.out (g := v66.heap.size) (fun k hk => (HQ1.out k hk).2.2) hq.2.1 ((HBB.out.below R_Letter_ok (HB0.out.trans (hHeld.mono (Nat.le_succ _)))).more R_Letter_ok (HB0.out.trans (hHeld.mono (Nat.le_succ _))).size) (by have := hS0.out; have := hq.1; omega) (by have := hlen.2.1; simp only [List.length_nil]; omega)
        simp only [List.nil_append, List.length_nil] at hr hrow hown
        have HRUN := Lib.hid hr
        clear hr
        have HN01 := Lib.hid (show ∀ k, (Value.slice xa P.length xc).ownBlock = some k → (Value.slice ya B.length yc).ownBlock = some k → False from fun k hk h2 => by rcases hown k h2 with e | e; exact HX01.out k hk e; (have h1 := (HQ0.out k hk).2.1; omega))
        have HX12 := Lib.hid (show ∀ k, (Value.slice ya B.length yc).ownBlock = some k → k ≠ wd.heap.size from fun k hk e => by rcases hown k hk with e2 | e2; (have h1 := HX12.out _ rfl; omega); (have h3 := HSZ2.out; omega))
        have HR := Lib.hid (hO.blk HR.out (by have := hS0.out; have := hq.1; omega))
        have HM0 := Lib.hid (LRow.mv2 HM0.out hO (fun k hk => HX01.out k hk))
        have HQ0 := Lib.hid (HQ0.out.mono hO.1)
        have HM2 := Lib.hid (LRow.mv2 HM2.out hO (fun k hk => HX21.out k hk))
        have HQ2 := Lib.hid (HQ2.out.mono hO.1)
        have HM1 := Lib.hid hrow
        have HQ1 := Lib.hid (show Own (Value.slice ya B.length yc) w0.heap.size v74.heap.size (fun _ => True) from fun k hk => ⟨by rcases hown k hk with e | e; (have := hq.1; omega); (have := hHeld.size; exact Nat.le_trans this e), (hrow.blk k hk).2, trivial⟩)
        have HSZ2 := Lib.hid (Nat.lt_of_lt_of_le HSZ2.out hO.1)
        have hbs := hO.2.2 (W.heap.size + 1) (by have := hS0.out; have := hq.1; omega) (by have := hS0.out; have := hHeld.size; omega)
        clear hq hrow hown hO
        refine step_app rfl (.tmp 7) (.tmp 9) 23 rfl rfl rfl HRUN.out ?_
        refine hK.out _ _ (hHeld.trans hbs) (fun hHeld => ?_)
        clear hbs HRUN
        clear hK K
        refine rd1 11 (fun K hK => ?_)
        have hq := HQ2.out _ rfl
        obtain ⟨za, zc, v75, hr, hrow, hO, hown⟩ := LRow.grow HM2.out (g := wd.heap.size) (fun k hk => (HQ2.out k hk).2.2) hq.2.1 ((HA.out.below R_Letter_ok (HB0.out.trans (hHeld.mono (Nat.le_succ _)))).more R_Letter_ok (HB0.out.trans (hHeld.mono (Nat.le_succ _))).size) (by have := hS0.out; have := hq.1; omega) (by have := hlen.2.2; simp only [List.length_nil]; omega)
        simp only [List.nil_append, List.length_nil] at hr hrow hown
        have HRUN := Lib.hid hr
        clear hr
        have HN02 := Lib.hid (show ∀ k, (Value.slice xa P.length xc).ownBlock = some k → (Value.slice za A.length zc).ownBlock = some k → False from fun k hk h2 => by rcases hown k h2 with e | e; exact HX02.out k hk e; (have h1 := (HQ0.out k hk).2.1; omega))
        have HN12 := Lib.hid (show ∀ k, (Value.slice ya B.length yc).ownBlock = some k → (Value.slice za A.length zc).ownBlock = some k → False from fun k hk h2 => by rcases hown k h2 with e | e; exact HX12.out k hk e; (have h1 := (HQ1.out k hk).2.1; omega))
        have HR := Lib.hid (hO.blk HR.out (by have := hS0.out; have := hq.1; omega))
        have HM0 := Lib.hid (LRow.mv2 HM0.out hO (fun k hk => HX02.out k hk))
        have HQ0 := Lib.hid (HQ0.out.mono hO.1)
        have HM1 := Lib.hid (LRow.mv2 HM1.out hO (fun k hk => HX12.out k hk))
        have HQ1 := Lib.hid (HQ1.out.mono hO.1)
        have HM2 := Lib.hid hrow
        have HQ2 := Lib.hid (show Own (Value.slice za A.length zc) w0.heap.size v75.heap.size (fun _ => True) from fun k hk => ⟨by rcases hown k hk with e | e; (have := hq.1; omega); (have := hHeld.size; exact Nat.le_trans this e), (hrow.blk k hk).2, trivial⟩)
        have hbs := hO.2.2 (W.heap.size + 1) (by have := hS0.out; have := hq.1; omega) (by have := hS0.out; have := hHeld.size; omega)
        clear hq hrow hown hO
        refine step_app rfl (.tmp 11) (.tmp 13) 23 rfl rfl rfl HRUN.out ?_
        refine hK.out _ _ (hHeld.trans hbs) (fun hHeld => ?_)
        clear hbs HRUN
        clear hK K
        refine tk 16 hHeld ?_
        refine rd1 17 (fun K hK => ?_)
        have qHR_0 := HR.out.at_ 0 rfl
        have qHR_1 := HR.out.at_ 1 rfl
        have qHR_2 := HR.out.at_ 2 rfl
        have qHR_3 := HR.out.at_ 3 rfl
        have qHR_4 := HR.out.at_ 4 rfl
        have sHR_0 := HR.out.soft 0
        have sHR_1 := HR.out.soft 1
        have sHR_2 := HR.out.soft 2
        have sHR_3 := HR.out.soft 3
        have sHR_4 := HR.out.soft 4
        go_simp
        refine hK.out _ _ (((((hHeld.setCell (p := ⟨W.heap.size + 1, 0, none⟩) (Nat.le_refl _) (.slice xa P.length xc)).setCell (p := ⟨W.heap.size + 1, 1, none⟩) (Nat.le_refl _) (.slice ya B.length yc)).setCell (p := ⟨W.heap.size + 1, 2, none⟩) (Nat.le_refl _) (.slice za A.length zc)).setCell (p := ⟨W.heap.size + 1, 3, none⟩) (Nat.le_refl _) (.int .i64 u)).setCell (p := ⟨W.heap.size + 1, 4, none⟩) (Nat.le_refl _) (.int .i64 n)) (fun hHeld => ?_)
        clear qHR_0 sHR_0 qHR_1 sHR_1 qHR_2 sHR_2 qHR_3 sHR_3 qHR_4 sHR_4
        clear hK K
        refine rd0 ?_
        have qHR_0 := HR.out.at_ 0 rfl
        have qHR_1 := HR.out.at_ 1 rfl
        have qHR_2 := HR.out.at_ 2 rfl
        have qHR_3 := HR.out.at_ 3 rfl
        have qHR_4 := HR.out.at_ 4 rfl
        go_wp2
        refine bodyPost_ret (v := .agg #[.slice xa P.length xc, .slice ya B.length yc, .slice za A.length zc, .int .i64 u, .int .i64 n]) (by simp [results, Tryd.results28, go_sem, *]) rfl ?_
        have hoff := ((((((Off.refl (fun x => x = W.heap.size + 1) v75).setCell (p := ⟨W.heap.size + 1, 0, none⟩) (rfl) (.slice xa P.length xc)).setCell (p := ⟨W.heap.size + 1, 1, none⟩) (rfl) (.slice ya B.length yc)).setCell (p := ⟨W.heap.size + 1, 2, none⟩) (rfl) (.slice za A.length zc)).setCell (p := ⟨W.heap.size + 1, 3, none⟩) (rfl) (.int .i64 u)).setCell (p := ⟨W.heap.size + 1, 4, none⟩) (rfl) (.int .i64 n))
        have hO : But2 v75 _ (W.heap.size + 1) := ⟨hoff.size, fun k hk hne => hoff.block k hk hne, fun C hC hCw => hoff.below hCw (fun k hk => by rw [hk]; exact hC)⟩
        have hbf := HB0.out.trans (hHeld.mono (Nat.le_succ _))
        have hs := hS0.out
        exact ⟨xa, xc, ya, yc, za, zc, rfl, LRow.mv2 HM0.out hO (fun k hk => by have h1 := HQ0.out k hk; omega), LRow.mv2 HM1.out hO (fun k hk => by have h1 := HQ1.out k hk; omega), LRow.mv2 HM2.out hO (fun k hk => by have h1 := HQ2.out k hk; omega), fun k hk => ⟨fun h2 => HN01.out k hk h2, fun h2 => HN02.out k hk h2⟩, fun k hk h2 => HN12.out k hk h2, hbf⟩
    · skip
      go_simp
      obtain ⟨v77, hw⟩ : ∃ w', w' = v65.alloc (.cells #[] 48) := ⟨_, rfl⟩
      have hO : But2 v65 v77 v65.heap.size := by rw [hw]; exact But2.alloc _ _
      have hle0 : w0.heap.size ≤ v65.heap.size := hHeld.size
      have hlt0 : v65.heap.size < v77.heap.size := by rw [hw]; simp
      have hrow : LRow v77 W.heap.size (.slice (some ⟨v65.heap.size, 0, none⟩) 0 0) [] := by rw [hw]; exact (FRow.made _ _ v65 _).lower (by have := hS0.out; show W.heap.size ≤ v65.heap.size; omega)
      have HX21 := Lib.hid (show ∀ k, (Value.slice (some ⟨wd.heap.size, 0, none⟩) 0 0).ownBlock = some k → k ≠ v65.heap.size from fun k hk => Nat.ne_of_lt (HQ2.out k hk).2.1)
      have HX12 := Lib.hid (show ∀ k, (Value.slice (some ⟨v65.heap.size, 0, none⟩) 0 0).ownBlock = some k → k ≠ wd.heap.size from fun k hk => by cases hk; exact Nat.ne_of_gt HSZ2.out)
      have HR := Lib.hid (hO.blk HR.out (by have := hS0.out; omega))
      have HM2 := Lib.hid (LRow.mv2 HM2.out hO (fun k hk => HX21.out k hk))
      have HQ2 := Lib.hid (HQ2.out.mono hO.1)
      have HSZ2 := Lib.hid (Nat.lt_of_lt_of_le HSZ2.out hO.1)
      have HM1 := Lib.hid hrow
      have HQ1 := Lib.hid (own_mk v65.heap.size 0 hle0 hlt0)
      have HSZ1 := Lib.hid hlt0
      have hbs := hO.2.2 (W.heap.size + 1) (by have := hS0.out; omega) (by have := hS0.out; show _ ≤ v65.heap.size; omega)
      rw [← hw]
      clear hw hrow hlt0
      refine hK.out _ _ (hHeld.trans hbs) (fun hHeld => ?_)
      clear hO hle0 hbs
      clear hK K
      refine rd1 0 (fun K hK => ?_)
      go_simp
      obtain ⟨v78, hw⟩ : ∃ w', w' = v77.alloc (.cells #[] 48) := ⟨_, rfl⟩
      have hO : But2 v77 v78 v77.heap.size := by rw [hw]; exact But2.alloc _ _
      have hle0 : w0.heap.size ≤ v77.heap.size := hHeld.size
      have hlt0 : v77.heap.size < v78.heap.size := by rw [hw]; simp
      have hrow : LRow v78 W.heap.size (.slice (some ⟨v77.heap.size, 0, none⟩) 0 0) [] := by rw [hw]; exact (FRow.made _ _ v77 _).lower (by have := hS0.out; show W.heap.size ≤ v77.heap.size; omega)
      have HX20 := Lib.hid (show ∀ k, (Value.slice (some ⟨wd.heap.size, 0, none⟩) 0 0).ownBlock = some k → k ≠ v77.heap.size from fun k hk => Nat.ne_of_lt (HQ2.out k hk).2.1)
      have HX02 := Lib.hid (show ∀ k, (Value.slice (some ⟨v77.heap.size, 0, none⟩) 0 0).ownBlock = some k → k ≠ wd.heap.size from fun k hk => by cases hk; exact Nat.ne_of_gt HSZ2.out)
      have HX10 := Lib.hid (show ∀ k, (Value.slice (some ⟨v65.heap.size, 0, none⟩) 0 0).ownBlock = some k → k ≠ v77.heap.size from fun k hk => Nat.ne_of_lt (HQ1.out k hk).2.1)
      have HX01 := Lib.hid (show ∀ k, (Value.slice (some ⟨v77.heap.size, 0, none⟩) 0 0).ownBlock = some k → k ≠ v65.heap.size from fun k hk => by cases hk; exact Nat.ne_of_gt HSZ1.out)
      have HR := Lib.hid (hO.blk HR.out (by have := hS0.out; omega))
      have HM2 := Lib.hid (LRow.mv2 HM2.out hO (fun k hk => HX20.out k hk))
      have HQ2 := Lib.hid (HQ2.out.mono hO.1)
      have HSZ2 := Lib.hid (Nat.lt_of_lt_of_le HSZ2.out hO.1)
      have HM1 := Lib.hid (LRow.mv2 HM1.out hO (fun k hk => HX10.out k hk))
      have HQ1 := Lib.hid (HQ1.out.mono hO.1)
      have HSZ1 := Lib.hid (Nat.lt_of_lt_of_le HSZ1.out hO.1)
      have HM0 := Lib.hid hrow
      have HQ0 := Lib.hid (own_mk v77.heap.size 0 hle0 hlt0)
      have HSZ0 := Lib.hid hlt0
      have hbs := hO.2.2 (W.heap.size + 1) (by have := hS0.out; omega) (by have := hS0.out; show _ ≤ v77.heap.size; omega)
      rw [← hw]
      clear hw hrow hlt0
      refine hK.out _ _ (hHeld.trans hbs) (fun hHeld => ?_)
      clear hO hle0 hbs
      clear hK K
      refine rd1 3 (fun K hK => ?_)
      have hq := HQ0.out _ rfl
      obtain ⟨xa, xc, v79, hr, hrow, hO, hown⟩ := LRow.grow HM0.out (g := v77.heap.size) (fun k hk => (HQ0.out k hk).2.2) hq.2.1 ((HP.out.below R_Letter_ok (HB0.out.trans (hHeld.mono (Nat.le_succ _)))).more R_Letter_ok (HB0.out.trans (hHeld.mono (Nat.le_succ _))).size) (by have := hS0.out; have := hq.1; omega) (by have := hlen.1; simp only [List.length_nil]; omega)
      simp only [List.nil_append, List.length_nil] at hr hrow hown
      have HRUN := Lib.hid hr
      clear hr
      have HX02 := Lib.hid (show ∀ k, (Value.slice xa P.length xc).ownBlock = some k → k ≠ wd.heap.size from fun k hk e => by rcases hown k hk with e2 | e2; (have h1 := HX02.out _ rfl; omega); (have h3 := HSZ2.out; omega))
      have HX01 := Lib.hid (show ∀ k, (Value.slice xa P.length xc).ownBlock = some k → k ≠ v65.heap.size from fun k hk e => by rcases hown k hk with e2 | e2; (have h1 := HX01.out _ rfl; omega); (have h3 := HSZ1.out; omega))
      have HR := Lib.hid (hO.blk HR.out (by have := hS0.out; have := hq.1; omega))
      have HM2 := Lib.hid (LRow.mv2 HM2.out hO (fun k hk => HX20.out k hk))
      have HQ2 := Lib.hid (HQ2.out.mono hO.1)
      have HM1 := Lib.hid (LRow.mv2 HM1.out hO (fun k hk => HX10.out k hk))
      have HQ1 := Lib.hid (HQ1.out.mono hO.1)
      have HM0 := Lib.hid hrow
      have HQ0 := Lib.hid (show Own (Value.slice xa P.length xc) w0.heap.size v79.heap.size (fun _ => True) from fun k hk => ⟨by rcases hown k hk with e | e; (have := hq.1; omega); (have := hHeld.size; exact Nat.le_trans this e), (hrow.blk k hk).2, trivial⟩)
      have HSZ2 := Lib.hid (Nat.lt_of_lt_of_le HSZ2.out hO.1)
      have HSZ1 := Lib.hid (Nat.lt_of_lt_of_le HSZ1.out hO.1)
      have hbs := hO.2.2 (W.heap.size + 1) (by have := hS0.out; have := hq.1; omega) (by have := hS0.out; have := hHeld.size; omega)
      clear hq hrow hown hO
      refine step_app rfl (.tmp 3) (.tmp 5) 23 rfl rfl rfl HRUN.out ?_
      refine hK.out _ _ (hHeld.trans hbs) (fun hHeld => ?_)
      clear hbs HRUN
      clear hK K
      refine rd1 7 (fun K hK => ?_)
      have hq := HQ1.out _ rfl
      obtain ⟨ya, yc, v80, hr, hrow, hO, hown⟩ := LRow.grow HM1.out (g := v65.heap.size) (fun k hk => (HQ1.out k hk).2.2) hq.2.1 ((HBB.out.below R_Letter_ok (HB0.out.trans (hHeld.mono (Nat.le_succ _)))).more R_Letter_ok (HB0.out.trans (hHeld.mono (Nat.le_succ _))).size) (by have := hS0.out; have := hq.1; omega) (by have := hlen.2.1; simp only [List.length_nil]; omega)
      simp only [List.nil_append, List.length_nil] at hr hrow hown
      have HRUN := Lib.hid hr
      clear hr
      have HN01 := Lib.hid (show ∀ k, (Value.slice xa P.length xc).ownBlock = some k → (Value.slice ya B.length yc).ownBlock = some k → False from fun k hk h2 => by rcases hown k h2 with e | e; exact HX01.out k hk e; (have h1 := (HQ0.out k hk).2.1; omega))
      have HX12 := Lib.hid (show ∀ k, (Value.slice ya B.length yc).ownBlock = some k → k ≠ wd.heap.size from fun k hk e => by rcases hown k hk with e2 | e2; (have h1 := HX12.out _ rfl; omega); (have h3 := HSZ2.out; omega))
      have HR := Lib.hid (hO.blk HR.out (by have := hS0.out; have := hq.1; omega))
      have HM0 := Lib.hid (LRow.mv2 HM0.out hO (fun k hk => HX01.out k hk))
      have HQ0 := Lib.hid (HQ0.out.mono hO.1)
      have HM2 := Lib.hid (LRow.mv2 HM2.out hO (fun k hk => HX21.out k hk))
      have HQ2 := Lib.hid (HQ2.out.mono hO.1)
      have HM1 := Lib.hid hrow
      have HQ1 := Lib.hid (show Own (Value.slice ya B.length yc) w0.heap.size v80.heap.size (fun _ => True) from fun k hk => ⟨by rcases hown k hk with e | e; (have := hq.1; omega); (have := hHeld.size; exact Nat.le_trans this e), (hrow.blk k hk).2, trivial⟩)
      have HSZ2 := Lib.hid (Nat.lt_of_lt_of_le HSZ2.out hO.1)
      have hbs := hO.2.2 (W.heap.size + 1) (by have := hS0.out; have := hq.1; omega) (by have := hS0.out; have := hHeld.size; omega)
      clear hq hrow hown hO
      refine step_app rfl (.tmp 7) (.tmp 9) 23 rfl rfl rfl HRUN.out ?_
      refine hK.out _ _ (hHeld.trans hbs) (fun hHeld => ?_)
      clear hbs HRUN
      clear hK K
      refine rd1 11 (fun K hK => ?_)
      have hq := HQ2.out _ rfl
      obtain ⟨za, zc, v81, hr, hrow, hO, hown⟩ := LRow.grow HM2.out (g := wd.heap.size) (fun k hk => (HQ2.out k hk).2.2) hq.2.1 ((HA.out.below R_Letter_ok (HB0.out.trans (hHeld.mono (Nat.le_succ _)))).more R_Letter_ok (HB0.out.trans (hHeld.mono (Nat.le_succ _))).size) (by have := hS0.out; have := hq.1; omega) (by have := hlen.2.2; simp only [List.length_nil]; omega)
      simp only [List.nil_append, List.length_nil] at hr hrow hown
      have HRUN := Lib.hid hr
      clear hr
      have HN02 := Lib.hid (show ∀ k, (Value.slice xa P.length xc).ownBlock = some k → (Value.slice za A.length zc).ownBlock = some k → False from fun k hk h2 => by rcases hown k h2 with e | e; exact HX02.out k hk e; (have h1 := (HQ0.out k hk).2.1; omega))
      have HN12 := Lib.hid (show ∀ k, (Value.slice ya B.length yc).ownBlock = some k → (Value.slice za A.length zc).ownBlock = some k → False from fun k hk h2 => by rcases hown k h2 with e | e; exact HX12.out k hk e; (have h1 := (HQ1.out k hk).2.1; omega))
      have HR := Lib.hid (hO.blk HR.out (by have := hS0.out; have := hq.1; omega))
      have HM0 := Lib.hid (LRow.mv2 HM0.out hO (fun k hk => HX02.out k hk))
      have HQ0 := Lib.hid (HQ0.out.mono hO.1)
      have HM1 := Lib.hid (LRow.mv2 HM1.out hO (fun k hk => HX12.out k hk))
      have HQ1 := Lib.hid (HQ1.out.mono hO.1)
      have HM2 := Lib.hid hrow
      have HQ2 := Lib.hid (show Own (Value.slice za A.length zc) w0.heap.size v81.heap.size (fun _ => True) from fun k hk => ⟨by rcases hown k hk with e | e; (have := hq.1; omega); (have := hHeld.size; exact Nat.le_trans this e), (hrow.blk k hk).2, trivial⟩)
      have hbs := hO.2.2 (W.heap.size + 1) (by have := hS0.out; have := hq.1; omega) (by have := hS0.out; have := hHeld.size; omega)
      clear hq hrow hown hO
      refine step_app rfl (.tmp 11) (.tmp 13) 23 rfl rfl rfl HRUN.out ?_
      refine hK.out _ _ (hHeld.trans hbs) (fun hHeld => ?_)
      clear hbs HRUN
      clear hK K
      refine tk 16 hHeld ?_
      refine rd1 17 (fun K hK => ?_)
      have qHR_0 := HR.out.at_ 0 rfl
      have qHR_1 := HR.out.at_ 1 rfl
      have qHR_2 := HR.out.at_ 2 rfl
      have qHR_3 := HR.out.at_ 3 rfl
      have qHR_4 := HR.out.at_ 4 rfl
      have sHR_0 := HR.out.soft 0
      have sHR_1 := HR.out.soft 1
      have sHR_2 := HR.out.soft 2
      have sHR_3 := HR.out.soft 3
      have sHR_4 := HR.out.soft 4
      go_simp
      refine hK.out _ _ (((((hHeld.setCell (p := ⟨W.heap.size + 1, 0, none⟩) (Nat.le_refl _) (.slice xa P.length xc)).setCell (p := ⟨W.heap.size + 1, 1, none⟩) (Nat.le_refl _) (.slice ya B.length yc)).setCell (p := ⟨W.heap.size + 1, 2, none⟩) (Nat.le_refl _) (.slice za A.length zc)).setCell (p := ⟨W.heap.size + 1, 3, none⟩) (Nat.le_refl _) (.int .i64 u)).setCell (p := ⟨W.heap.size + 1, 4, none⟩) (Nat.le_refl _) (.int .i64 n)) (fun hHeld => ?_)
      clear qHR_0 sHR_0 qHR_1 sHR_1 qHR_2 sHR_2 qHR_3 sHR_3 qHR_4 sHR_4
      clear hK K
      refine rd0 ?_
      have qHR_0 := HR.out.at_ 0 rfl
      have qHR_1 := HR.out.at_ 1 rfl
      have qHR_2 := HR.out.at_ 2 rfl
      have qHR_3 := HR.out.at_ 3 rfl
      have qHR_4 := HR.out.at_ 4 rfl
      go_wp2
      refine bodyPost_ret (v := .agg #[.slice xa P.length xc, .slice ya B.length yc, .slice za A.length zc, .int .i64 u, .int .i64 n]) (by simp [results, Tryd.results28, go_sem, *]) rfl ?_
      have hoff := ((((((Off.refl (fun x => x = W.heap.size + 1) v81).setCell (p := ⟨W.heap.size + 1, 0, none⟩) (rfl) (.slice xa P.length xc)).setCell (p := ⟨W.heap.size + 1, 1, none⟩) (rfl) (.slice ya B.length yc)).setCell (p := ⟨W.heap.size + 1, 2, none⟩) (rfl) (.slice za A.length zc)).setCell (p := ⟨W.heap.size + 1, 3, none⟩) (rfl) (.int .i64 u)).setCell (p := ⟨W.heap.size + 1, 4, none⟩) (rfl) (.int .i64 n))
      have hO : But2 v81 _ (W.heap.size + 1) := ⟨hoff.size, fun k hk hne => hoff.block k hk hne, fun C hC hCw => hoff.below hCw (fun k hk => by rw [hk]; exact hC)⟩
      have hbf := HB0.out.trans (hHeld.mono (Nat.le_succ _))
      have hs := hS0.out
      exact ⟨xa, xc, ya, yc, za, zc, rfl, LRow.mv2 HM0.out hO (fun k hk => by have h1 := HQ0.out k hk; omega), LRow.mv2 HM1.out hO (fun k hk => by have h1 := HQ1.out k hk; omega), LRow.mv2 HM2.out hO (fun k hk => by have h1 := HQ2.out k hk; omega), fun k hk => ⟨fun h2 => HN01.out k hk h2, fun h2 => HN02.out k hk h2⟩, fun k hk h2 => HN12.out k hk h2, hbf⟩
end Go.Proofs.YtphklknaagjmpaaDoor.RepC
end
