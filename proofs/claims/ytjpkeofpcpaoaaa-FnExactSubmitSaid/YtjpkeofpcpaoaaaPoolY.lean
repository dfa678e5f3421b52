/- l05Copy of the model: a contract. -/
import Derived.Test.YtjpkeofpcpaoaaaPoolR
import Derived.Test.YtjpkeofpcpaoaaaApp
namespace Go.Proofs.Ytjpkeofpcpaoaaa.RepC
open Go.RowKit RowC ValC SpanC KeptC
set_option linter.unusedVariables false
set_option linter.unusedSimpArgs false

theorem m_infoL : ∃ i, Try.prog.info? 43 = some i ∧ i.zero = some (.agg #[.int .i64 0, .int .i64 0]) ∧ i.size = 2 ∧ i.bytes = 16 := by
  have h : (Try.prog.info? 43).map (fun i => (i.zero, i.size, i.bytes)) = some (some (.agg #[.int .i64 0, .int .i64 0]), 2, 16) := by kernel_rfl
  cases hx : Try.prog.info? 43 with
  | none => rw [hx] at h; simp at h
  | some i => rw [hx] at h; simp at h; exact ⟨i, rfl, h.1, h.2.1, h.2.2⟩
theorem m_infoLS : ∃ i, Try.prog.info? 120 = some i ∧ i.zero = some (.slice none 0 0) ∧ i.size = 1 ∧ i.bytes = 24 := by
  have h : (Try.prog.info? 120).map (fun i => (i.zero, i.size, i.bytes)) = some (some (.slice none 0 0), 1, 24) := by kernel_rfl
  cases hx : Try.prog.info? 120 with
  | none => rw [hx] at h; simp at h
  | some i => rw [hx] at h; simp at h; exact ⟨i, rfl, h.1, h.2.1, h.2.2⟩
theorem m_infoJob : ∃ i, Try.prog.info? 45 = some i ∧ i.zero = some (.agg #[.int .i64 0, .int .i64 0, .int .i64 0, .int .i64 0, .int .i64 0, .int .i64 0, .int .i64 0, .int .i64 0, .slice none 0 0]) ∧ i.size = 9 ∧ i.bytes = 88 := by
  have h : (Try.prog.info? 45).map (fun i => (i.zero, i.size, i.bytes)) = some (some (.agg #[.int .i64 0, .int .i64 0, .int .i64 0, .int .i64 0, .int .i64 0, .int .i64 0, .int .i64 0, .int .i64 0, .slice none 0 0]), 9, 88) := by kernel_rfl
  cases hx : Try.prog.info? 45 with
  | none => rw [hx] at h; simp at h
  | some i => rw [hx] at h; simp at h; exact ⟨i, rfl, h.1, h.2.1, h.2.2⟩
theorem below_own {B : Nat} {w w' : World} {v : Value} (h : w.grownBy w' v.ownBlock) (hv : ∀ k, v.ownBlock = some k → B ≤ k) (hB : B ≤ w.heap.size) : Below B w w' :=
  ⟨h.os, h.tape, h.output, h.size, fun k hk => h.block k (Nat.lt_of_lt_of_le hk hB) (fun e => by have := hv k e.symm; omega)⟩
/-- a pool of the call's own, whose lists may grow -/
def PoolNw (C : List (List D_Label)) (L : List D_Job) (now : Int) (w : World) (e : Ending) (w' : World) : Prop :=
  ∃ ca cc ja jc l1 h1 l2 h2 xs Sf ys Sg, e = .returned (.agg #[.slice ca C.length cc, .slice ja L.length jc, .int .i64 now]) ∧ App (Sl R_Label) w' l1 h1 120 (.slice ca C.length cc) C xs Sf ∧ App R_Job w' l2 h2 45 (.slice ja L.length jc) L ys Sg ∧ w.heap.size ≤ l1 ∧ l1 ≤ h1 ∧ h1 ≤ l2 ∧ l2 ≤ h2 ∧ Below w.heap.size w w'

set_option maxRecDepth 100000 in
set_option maxHeartbeats 3200000 in
theorem copy_pool {C : List (List D_Label)} {L : List D_Job} {now : Int} {ca ja : Option Addr} {cc jc : Nat} {W : World} (hzC : (Sl (Sl R_Label)).sz C ≤ 1048576) (hzL : (Sl R_Job).sz L ≤ 1048576) (hC : RdSl (Sl R_Label) W W.heap.size C ca cc) (hL : RdSl R_Job W W.heap.size L ja jc) :
    Calls Try.prog 107 #[.agg #[.slice ca C.length cc, .slice ja L.length jc, .int .i64 now]] W (PoolNw C L now W) := by
  have HC := Lib.hid hC
  have HL := Lib.hid hL
  have HZC := Lib.hid hzC
  have HZL := Lib.hid hzL
  have hcn : C.length ≤ 1048576 := Nat.le_trans (Nat.le_add_right _ _) hzC
  have hln : L.length ≤ 1048576 := Nat.le_trans (Nat.le_add_right _ _) hzL
  clear hC hL hzC hzL
  obtain ⟨W3, hW3⟩ : ∃ w, w = ((W.alloc (.cells #[.slice ca C.length cc, .slice ja L.length jc, .int .i64 now] 65)).alloc (.cells #[.slice none 0 0, .slice none 0 0, .int .i64 0] 65)).alloc (.cells #[.slice none 0 0, .slice none 0 0, .int .i64 now] 65) := ⟨_, rfl⟩
  have HS3 := Lib.hid (show W3.heap.size = W.heap.size + 3 from by rw [hW3]; simp)
  have HB0 := Lib.hid (show Below W.heap.size W W3 from by rw [hW3]; exact (((Below.refl _ _).alloc (Nat.le_refl _) _).alloc (by simp) _).alloc (by simp; omega) _)
  have HP0 := Lib.hid (show Blk W3 W.heap.size 65 #[.slice ca C.length cc, .slice ja L.length jc, .int .i64 now] from by rw [hW3]; exact ((Blk.new W _ _).alloc _).alloc _)
  have HQ0 := Lib.hid (show Blk W3 (W.heap.size + 1) 65 #[.slice none 0 0, .slice none 0 0, .int .i64 0] from by
    rw [hW3]
    have h := (Blk.new (W.alloc (.cells #[.slice ca C.length cc, .slice ja L.length jc, .int .i64 now] 65)) 65 #[.slice none 0 0, .slice none 0 0, .int .i64 0]).alloc (.cells #[.slice none 0 0, .slice none 0 0, .int .i64 now] 65)
    simp only [World.size_alloc] at h
    exact h)
  have HR0 := Lib.hid (show Blk W3 (W.heap.size + 2) 65 #[.slice none 0 0, .slice none 0 0, .int .i64 now] from by
    rw [hW3]
    have h := Blk.new ((W.alloc (.cells #[.slice ca C.length cc, .slice ja L.length jc, .int .i64 now] 65)).alloc (.cells #[.slice none 0 0, .slice none 0 0, .int .i64 0] 65)) 65 #[.slice none 0 0, .slice none 0 0, .int .i64 now]
    simp only [World.size_alloc] at h
    exact h)
  go_enter Try.func107, Try.ntmps107
  go_wp2
  rw [← hW3]
  go_loopw [4] (fun i wr => ∃ k : Nat, k ≤ C.length ∧ i = .int .i64 k ∧ Below W.heap.size W wr ∧ Hid (Blk wr W.heap.size 65 #[.slice ca C.length cc, .slice ja L.length jc, .int .i64 now]) ∧ Hid (Blk wr (W.heap.size + 1) 65 #[.slice none 0 0, .slice none 0 0, .int .i64 0]) ∧ ∃ v hi xs Sf, Hid (Blk wr (W.heap.size + 2) 65 #[v, .slice none 0 0, .int .i64 now]) ∧ Hid (W.heap.size + 3 ≤ hi) ∧ Hid (App (Sl R_Label) wr (W.heap.size + 3) hi 120 v (C.take k) xs Sf)) (fun i _ => C.length - (intOf i).toNat)
  case atStart => exact ⟨0, Nat.zero_le _, rfl, HB0.out, HP0, HQ0, _, _, _, _, HR0, Lib.hid (Nat.le_refl _), Lib.hid (App.none_ _ _ _ (by rw [HS3.out]; exact Nat.le_refl _))⟩
  case round =>
    obtain ⟨k, hk, rfl, hB, HP, HQ, v, hi, xs, Sf, HR, HHI, HA⟩ := hrel
    have HB := Lib.hid hB
    have hsz := hB.size
    have p0 := HP.out.at_ 0 rfl
    by_cases hlt : k < C.length
    · have hdl : decide ((k : Int) < (C.length : Int)) = true := decide_eq_true (by omega)
      obtain ⟨x, hx⟩ := el_some hlt
      have HX := Lib.hid hx
      obtain ⟨g, o, us, rfl, hg, hu, hr⟩ := HC.out.at_ hx
      obtain ⟨a1, c1, rfl, hx1⟩ := hr
      have e0 : wr.cell? ⟨g, o + k, none⟩ = some (.slice a1 x.length c1) := (hB.cell (p := ⟨g, o + k, none⟩) hg).trans (by simpa [size_SLab] using hu 0 _ rfl)
      have hi0 : (0 : Int) ≤ (k : Int) := Int.natCast_nonneg _
      have hi1 : (k : Int) < (C.length : Int) := by omega
      have hxl : x.length ≤ 1048576 := Nat.le_trans (Nat.le_add_right _ _) (sz_at (f := (Sl R_Label).sz) hx HZC.out)
      -- the label slice, copied
      obtain ⟨iL, hiL, hzL1, hsL, hbL⟩ := m_infoL
      obtain ⟨iS, hiS, hzS1, hsS, hbS⟩ := m_infoLS
      have hRx : RdSl R_Label wr.drew wr.drew.heap.size x a1 c1 := ((hx1.below R_Label_ok hB).more R_Label_ok hsz).below R_Label_ok ((Below.refl _ _).drew)
      obtain ⟨a2, c2, w2, hr24, ho2, hb2⟩ := app_flat (P := Try.prog) (ty := 120) R_Label_ok flat_Label Try.underlying120 hiL hzL1 hsL hbL rfl (by decide) (by unfold maxLen; omega) (by omega) hRx
      have hb2' : Below wr.heap.size wr w2 := ((Below.refl _ _).drew).trans hb2
      have hA2 := HA.out.call (Sl_ok R_Label_ok) hb2'
      have hbA : Below w2.heap.size w2 (w2.alloc (.cells #[.slice a2 x.length c2] 120)) := (Below.refl _ _).alloc (Nat.le_refl _) _
      have hA3 := hA2.call (Sl_ok R_Label_ok) hbA
      have hrow := Blk.new w2 120 #[.slice a2 x.length c2]
      have hlo3 := HHI.out
      have hle3 := HA.out.le
      obtain ⟨v', w3, xs', Sf', hr26, hA4, hg4⟩ := hA3.app (P := Try.prog) (ty := 63) (c := 1) (Sl_ok R_Label_ok) Try.underlying63 hiS hzS1 hsS hbS rfl (by decide) (x := x) (us := [.slice a2 x.length c2]) (Sx := Rg wr.drew.heap.size w2.heap.size) (blk := w2.heap.size) (fun j u hj => hrow.at_ j (by simpa using hj))
        ⟨a2, c2, rfl, ho2.keep R_Label_ok (fun q hq => hbA.block q hq.2)⟩ (fun q hq => ⟨Nat.le_trans hle3 hq.1, Nat.lt_of_lt_of_le hq.2 hbA.size⟩) hlo3 (by rw [List.length_take]; unfold maxLen; omega) (by rw [List.length_take]; omega)
      obtain ⟨a4, n4, c4, rfl⟩ : ∃ a n c, v' = .slice a n c := by
        obtain ⟨a, c, e⟩ := hA4.isSlice
        exact ⟨a, _, c, e⟩
      have hle2 : W.heap.size + 2 ≤ wr.heap.size := by have := HQ.out.lt; omega
      have HR24 := Lib.hid (show (Builtin.append_ #[120, 120] 120 #[.slice (some ⟨wr.heap.size, 0, none⟩) 0 0, .slice a1 x.length c1]).run Try.prog (wr.drew.alloc (.cells #[] 43)) = .ok (.slice a2 x.length c2) w2 from hr24)
      have HR26 := Lib.hid hr26
      have hb1 : Below wr.heap.size wr (wr.drew.alloc (.cells #[] 43)) := ((Below.refl _ _).drew).alloc (Nat.le_refl _) _
      have hb2a : Below wr.heap.size wr (w2.alloc (.cells #[.slice a2 x.length c2] 120)) := hb2'.trans (hbA.mono hb2'.size)
      have S1 := Lib.hid (hb1.mono hle2)
      have S2 := Lib.hid (hb2'.mono hle2)
      have S2a := Lib.hid (hb2a.mono hle2)
      have S3 := Lib.hid ((hb2a.mono hle2).trans (below_own hg4 (fun q hq => by have := (HA.out.blk q hq).1; omega) (Nat.le_trans hle2 hb2a.size)))
      have S4 := Lib.hid (S3.out.setCell (p := ⟨W.heap.size + 1 + 1, 0, none⟩) (Nat.le_refl _) (.slice a4 n4 c4))
      have R3 := Lib.hid (show Blk w3 (W.heap.size + 2) 65 #[v, .slice none 0 0, .int .i64 now] from (hg4.block (W.heap.size + 2) ((HR.out.call hb2a).lt) (fun e => by have := (HA.out.blk _ e.symm).1; omega)).trans (HR.out.call hb2a))
      have q0 : wr.cell? ⟨W.heap.size + 1 + 1, 0, none⟩ = some v := HR.out.at_ 0 rfl
      have q1 : (wr.alloc (.cells #[] 43)).cell? ⟨W.heap.size + 1 + 1, 0, none⟩ = some v := (HR.out.call hb1).at_ 0 rfl
      have q2 : w2.cell? ⟨W.heap.size + 1 + 1, 0, none⟩ = some v := (HR.out.call hb2').at_ 0 rfl
      have q3 : (w2.alloc (.cells #[.slice a2 x.length c2] 120)).cell? ⟨W.heap.size + 1 + 1, 0, none⟩ = some v := (HR.out.call hb2a).at_ 0 rfl
      have q4 : w3.cell? ⟨W.heap.size + 1 + 1, 0, none⟩ = some v := R3.out.at_ 0 rfl
      have f4 : w3.frozen? ⟨W.heap.size + 1 + 1, 0, none⟩ = false := R3.out.soft 0
      have HA4 := Lib.hid (hA4.mv (w' := w3.setCell ⟨W.heap.size + 1 + 1, 0, none⟩ (.slice a4 n4 c4)) (Sl_ok R_Label_ok) (by simp [World.setCell]) (fun q hq _ => Below.heap_setCell w3 ⟨W.heap.size + 1 + 1, 0, none⟩ (.slice a4 n4 c4) q (by show q ≠ W.heap.size + 1 + 1; omega)))
      have HT := Lib.hid (show C.take (k + 1) = C.take k ++ [x] from by rw [List.take_add_one, hx]; rfl)
      have HH4 := Lib.hid (show W.heap.size + 3 ≤ w3.heap.size from Nat.le_trans (Nat.le_trans hlo3 hA3.le) hg4.size)
      have HB4 := Lib.hid (hB.trans ((S4.out).mono (by omega)))
      have HP4 := Lib.hid (show Blk _ W.heap.size 65 _ from (S4.out.block W.heap.size (by omega)).trans HP.out)
      have HQ4 := Lib.hid (show Blk _ (W.heap.size + 1) 65 _ from (S4.out.block (W.heap.size + 1) (by omega)).trans HQ.out)
      have HR4 := Lib.hid (show Blk (w3.setCell ⟨W.heap.size + 1 + 1, 0, none⟩ (.slice a4 n4 c4)) (W.heap.size + 2) 65 #[(.slice a4 n4 c4), .slice none 0 0, .int .i64 now] from (R3.out.set 0 (.slice a4 n4 c4)).as rfl)
      clear hB hx hu hx1 hiL hzL1 hsL hbL hiS hzS1 hsS hbS hRx hr24 ho2 hb2 hb2' hA2 hbA hA3 hrow hlo3 hle3 hr26 hA4 hg4 hb1 hb2a
      go_wp2_with fail
      refine wp_region_held_drew (S := (fun V => Below (W.heap.size + 2) wr V)) (by kernel_rfl) (((Below.refl (W.heap.size + 2) wr).drew)) (fun hHeld => ?_)
      (refine wpAnyH_take (i := 0) (v := ?hv1) rfl (by kernel_rfl) (by kernel_rfl) (by kernel_rfl) (fun _ _ _ h => h) (Or.inl ⟨by kernel_rfl, ?hy1⟩) hHeld ?hr1; case hy1 => (intro w hSw; (try dsimp only at hSw); go_simp; try with_reducible rfl))
      simp only [Act.put, List.getElem_toArray, List.getElem_cons_succ, List.getElem_cons_zero, List.setIfInBounds_toArray, List.set_cons_zero, List.set_cons_succ]
      (refine wpAnyH_take (i := 3) (v := ?hv2) rfl (by kernel_rfl) (by kernel_rfl) (by kernel_rfl) (fun _ _ _ h => h) (Or.inl ⟨by kernel_rfl, ?hy2⟩) hHeld ?hr2; case hy2 => (intro w hSw; (try dsimp only at hSw); go_simp; try with_reducible rfl))
      simp only [Act.put, List.getElem_toArray, List.getElem_cons_succ, List.getElem_cons_zero, List.setIfInBounds_toArray, List.set_cons_zero, List.set_cons_succ]
      (refine wpAnyH_take (i := 4) (v := ?hv3) rfl (by kernel_rfl) (by kernel_rfl) (by kernel_rfl) (fun _ _ _ h => h) (Or.inl ⟨by kernel_rfl, ?hy3⟩) hHeld ?hr3; case hy3 => (intro w hSw; (try dsimp only at hSw); have k0 := (hSw.cell (p := ⟨W.heap.size, 0, none⟩) (by show W.heap.size < W.heap.size + 2; omega)).trans p0; clear hSw; go_simp; try with_reducible rfl))
      simp only [Act.put, List.getElem_toArray, List.getElem_cons_succ, List.getElem_cons_zero, List.setIfInBounds_toArray, List.set_cons_zero, List.set_cons_succ]
      (refine wpAnyH_take (i := 5) (v := ?hv4) rfl (by kernel_rfl) (by kernel_rfl) (by kernel_rfl) (fun _ _ _ h => h) (Or.inl ⟨by kernel_rfl, ?hy4⟩) hHeld ?hr4; case hy4 => (intro w hSw; (try dsimp only at hSw); go_simp; try with_reducible rfl))
      simp only [Act.put, List.getElem_toArray, List.getElem_cons_succ, List.getElem_cons_zero, List.setIfInBounds_toArray, List.set_cons_zero, List.set_cons_succ]
      (refine wpAnyH_take (i := 6) (v := ?hv5) rfl (by kernel_rfl) (by kernel_rfl) (by kernel_rfl) (fun _ _ _ h => h) (Or.inl ⟨by kernel_rfl, ?hy5⟩) hHeld ?hr5; case hy5 => (intro w hSw; (try dsimp only at hSw); go_simp; try with_reducible rfl))
      simp only [Act.put, List.getElem_toArray, List.getElem_cons_succ, List.getElem_cons_zero, List.setIfInBounds_toArray, List.set_cons_zero, List.set_cons_succ]
      (refine wpAnyH_take (i := 7) (v := ?hv6) rfl (by kernel_rfl) (by kernel_rfl) (by kernel_rfl) (fun _ _ _ h => h) (Or.inl ⟨by kernel_rfl, ?hy6⟩) hHeld ?hr6; case hy6 => (intro w hSw; (try dsimp only at hSw); have k0 := (hSw.cell (p := ⟨g, o + k, none⟩) (by show g < W.heap.size + 2; omega)).trans e0; clear hSw; go_simp; try with_reducible rfl))
      simp only [Act.put, List.getElem_toArray, List.getElem_cons_succ, List.getElem_cons_zero, List.setIfInBounds_toArray, List.set_cons_zero, List.set_cons_succ]
      refine wpAnyH_ready (rs := [1, 2]) (by kernel_rfl) (by simp) ?_
      refine AllReadyH.cons rfl (fun K hK => ?_) (AllReadyH.cons rfl (fun K hK => ?_) (AllReadyH.nil))
      · skip
        go_simp
        refine hK.out _ _ hHeld (fun hHeld => ?_)
        clear hK K
        try simp only [Act.put, List.getElem_toArray, List.getElem_cons_succ, List.getElem_cons_zero, List.setIfInBounds_toArray, List.set_cons_zero, List.set_cons_succ]
        refine wpAnyH_ready (rs := [2]) (by kernel_rfl) (by simp) ?_
        refine AllReadyH.cons rfl (fun K hK => ?_) (AllReadyH.nil)
        go_simp
        refine hK.out _ _ S1.out (fun hHeld => ?_)
        clear hK K
        try simp only [Act.put, List.getElem_toArray, List.getElem_cons_succ, List.getElem_cons_zero, List.setIfInBounds_toArray, List.set_cons_zero, List.set_cons_succ]
        refine wpAnyH_ready (rs := [8]) (by kernel_rfl) (by simp) ?_
        refine AllReadyH.cons rfl (fun K hK => ?_) (AllReadyH.nil)
        refine step_app rfl (.tmp 18) (.tmp 23) 120 rfl rfl rfl HR24.out ?_
        refine hK.out _ _ S2.out (fun hHeld => ?_)
        clear hK K
        try simp only [Act.put, List.getElem_toArray, List.getElem_cons_succ, List.getElem_cons_zero, List.setIfInBounds_toArray, List.set_cons_zero, List.set_cons_succ]
        refine wpAnyH_ready (rs := [9]) (by kernel_rfl) (by simp) ?_
        refine AllReadyH.cons rfl (fun K hK => ?_) (AllReadyH.nil)
        go_simp
        refine hK.out _ _ S2a.out (fun hHeld => ?_)
        clear hK K
        try simp only [Act.put, List.getElem_toArray, List.getElem_cons_succ, List.getElem_cons_zero, List.setIfInBounds_toArray, List.set_cons_zero, List.set_cons_succ]
        refine wpAnyH_ready (rs := [10]) (by kernel_rfl) (by simp) ?_
        refine AllReadyH.cons rfl (fun K hK => ?_) (AllReadyH.nil)
        refine step_app rfl (.tmp 17) (.tmp 25) 63 rfl rfl rfl HR26.out ?_
        refine hK.out _ _ S3.out (fun hHeld => ?_)
        clear hK K
        try simp only [Act.put, List.getElem_toArray, List.getElem_cons_succ, List.getElem_cons_zero, List.setIfInBounds_toArray, List.set_cons_zero, List.set_cons_succ]
        (refine wpAnyH_take (i := 11) (v := ?hv7) rfl (by kernel_rfl) (by kernel_rfl) (by kernel_rfl) (fun _ _ _ h => h) (Or.inl ⟨by kernel_rfl, ?hy7⟩) hHeld ?hr7; case hy7 => (intro w hSw; (try dsimp only at hSw); go_simp; try with_reducible rfl))
        simp only [Act.put, List.getElem_toArray, List.getElem_cons_succ, List.getElem_cons_zero, List.setIfInBounds_toArray, List.set_cons_zero, List.set_cons_succ]
        refine wpAnyH_ready (rs := [12]) (by kernel_rfl) (by simp) ?_
        refine AllReadyH.cons rfl (fun K hK => ?_) (AllReadyH.nil)
        go_simp
        refine hK.out _ _ S4.out (fun hHeld => ?_)
        clear hK K
        try simp only [Act.put, List.getElem_toArray, List.getElem_cons_succ, List.getElem_cons_zero, List.setIfInBounds_toArray, List.set_cons_zero, List.set_cons_succ]
        refine wpAnyH_done (by kernel_rfl) ?_ _
        clear q0 q1 q2 q3 q4 f4
        go_wp2
        go_roundw
        case rel => exact ⟨k + 1, by omega, by go_num, HB4.out, HP4, HQ4, _, _, xs', Sf', HR4, HH4, Lib.hid (by rw [HT.out]; exact HA4.out)⟩
        case measure => simp [intOf]; omega
      · skip
        go_simp
        refine hK.out _ _ S1.out (fun hHeld => ?_)
        clear hK K
        try simp only [Act.put, List.getElem_toArray, List.getElem_cons_succ, List.getElem_cons_zero, List.setIfInBounds_toArray, List.set_cons_zero, List.set_cons_succ]
        refine wpAnyH_ready (rs := [1, 8]) (by kernel_rfl) (by simp) ?_
        refine AllReadyH.cons rfl (fun K hK => ?_) (AllReadyH.cons rfl (fun K hK => ?_) (AllReadyH.nil))
        · skip
          go_simp
          refine hK.out _ _ hHeld (fun hHeld => ?_)
          clear hK K
          try simp only [Act.put, List.getElem_toArray, List.getElem_cons_succ, List.getElem_cons_zero, List.setIfInBounds_toArray, List.set_cons_zero, List.set_cons_succ]
          refine wpAnyH_ready (rs := [8]) (by kernel_rfl) (by simp) ?_
          refine AllReadyH.cons rfl (fun K hK => ?_) (AllReadyH.nil)
          refine step_app rfl (.tmp 18) (.tmp 23) 120 rfl rfl rfl HR24.out ?_
          refine hK.out _ _ S2.out (fun hHeld => ?_)
          clear hK K
          try simp only [Act.put, List.getElem_toArray, List.getElem_cons_succ, List.getElem_cons_zero, List.setIfInBounds_toArray, List.set_cons_zero, List.set_cons_succ]
          refine wpAnyH_ready (rs := [9]) (by kernel_rfl) (by simp) ?_
          refine AllReadyH.cons rfl (fun K hK => ?_) (AllReadyH.nil)
          go_simp
          refine hK.out _ _ S2a.out (fun hHeld => ?_)
          clear hK K
          try simp only [Act.put, List.getElem_toArray, List.getElem_cons_succ, List.getElem_cons_zero, List.setIfInBounds_toArray, List.set_cons_zero, List.set_cons_succ]
          refine wpAnyH_ready (rs := [10]) (by kernel_rfl) (by simp) ?_
          refine AllReadyH.cons rfl (fun K hK => ?_) (AllReadyH.nil)
          refine step_app rfl (.tmp 17) (.tmp 25) 63 rfl rfl rfl HR26.out ?_
          refine hK.out _ _ S3.out (fun hHeld => ?_)
          clear hK K
          try simp only [Act.put, List.getElem_toArray, List.getElem_cons_succ, List.getElem_cons_zero, List.setIfInBounds_toArray, List.set_cons_zero, List.set_cons_succ]
          (refine wpAnyH_take (i := 11) (v := ?hv8) rfl (by kernel_rfl) (by kernel_rfl) (by kernel_rfl) (fun _ _ _ h => h) (Or.inl ⟨by kernel_rfl, ?hy8⟩) hHeld ?hr8; case hy8 => (intro w hSw; (try dsimp only at hSw); go_simp; try with_reducible rfl))
          simp only [Act.put, List.getElem_toArray, List.getElem_cons_succ, List.getElem_cons_zero, List.setIfInBounds_toArray, List.set_cons_zero, List.set_cons_succ]
          refine wpAnyH_ready (rs := [12]) (by kernel_rfl) (by simp) ?_
          refine AllReadyH.cons rfl (fun K hK => ?_) (AllReadyH.nil)
          go_simp
          refine hK.out _ _ S4.out (fun hHeld => ?_)
          clear hK K
          try simp only [Act.put, List.getElem_toArray, List.getElem_cons_succ, List.getElem_cons_zero, List.setIfInBounds_toArray, List.set_cons_zero, List.set_cons_succ]
          refine wpAnyH_done (by kernel_rfl) ?_ _
          clear q0 q1 q2 q3 q4 f4
          go_wp2
          go_roundw
          case rel => exact ⟨k + 1, by omega, by go_num, HB4.out, HP4, HQ4, _, _, xs', Sf', HR4, HH4, Lib.hid (by rw [HT.out]; exact HA4.out)⟩
          case measure => simp [intOf]; omega
        · skip
          refine step_app rfl (.tmp 18) (.tmp 23) 120 rfl rfl rfl HR24.out ?_
          refine hK.out _ _ S2.out (fun hHeld => ?_)
          clear hK K
          try simp only [Act.put, List.getElem_toArray, List.getElem_cons_succ, List.getElem_cons_zero, List.setIfInBounds_toArray, List.set_cons_zero, List.set_cons_succ]
          refine wpAnyH_ready (rs := [1, 9]) (by kernel_rfl) (by simp) ?_
          refine AllReadyH.cons rfl (fun K hK => ?_) (AllReadyH.cons rfl (fun K hK => ?_) (AllReadyH.nil))
          · skip
            go_simp
            refine hK.out _ _ hHeld (fun hHeld => ?_)
            clear hK K
            try simp only [Act.put, List.getElem_toArray, List.getElem_cons_succ, List.getElem_cons_zero, List.setIfInBounds_toArray, List.set_cons_zero, List.set_cons_succ]
            refine wpAnyH_ready (rs := [9]) (by kernel_rfl) (by simp) ?_
            refine AllReadyH.cons rfl (fun K hK => ?_) (AllReadyH.nil)
            go_simp
            refine hK.out _ _ S2a.out (fun hHeld => ?_)
            clear hK K
            try simp only [Act.put, List.getElem_toArray, List.getElem_cons_succ, List.getElem_cons_zero, List.setIfInBounds_toArray, List.set_cons_zero, List.set_cons_succ]
            refine wpAnyH_ready (rs := [10]) (by kernel_rfl) (by simp) ?_
            refine AllReadyH.cons rfl (fun K hK => ?_) (AllReadyH.nil)
            refine step_app rfl (.tmp 17) (.tmp 25) 63 rfl rfl rfl HR26.out ?_
            refine hK.out _ _ S3.out (fun hHeld => ?_)
            clear hK K
            try simp only [Act.put, List.getElem_toArray, List.getElem_cons_succ, List.getElem_cons_zero, List.setIfInBounds_toArray, List.set_cons_zero, List.set_cons_succ]
            (refine wpAnyH_take (i := 11) (v := ?hv9) rfl (by kernel_rfl) (by kernel_rfl) (by kernel_rfl) (fun _ _ _ h => h) (Or.inl ⟨by kernel_rfl, ?hy9⟩) hHeld ?hr9; case hy9 => (intro w hSw; (try dsimp only at hSw); go_simp; try with_reducible rfl))
            simp only [Act.put, List.getElem_toArray, List.getElem_cons_succ, List.getElem_cons_zero, List.setIfInBounds_toArray, List.set_cons_zero, List.set_cons_succ]
            refine wpAnyH_ready (rs := [12]) (by kernel_rfl) (by simp) ?_
            refine AllReadyH.cons rfl (fun K hK => ?_) (AllReadyH.nil)
            go_simp
            refine hK.out _ _ S4.out (fun hHeld => ?_)
            clear hK K
            try simp only [Act.put, List.getElem_toArray, List.getElem_cons_succ, List.getElem_cons_zero, List.setIfInBounds_toArray, List.set_cons_zero, List.set_cons_succ]
            refine wpAnyH_done (by kernel_rfl) ?_ _
            clear q0 q1 q2 q3 q4 f4
            go_wp2
            go_roundw
            case rel => exact ⟨k + 1, by omega, by go_num, HB4.out, HP4, HQ4, _, _, xs', Sf', HR4, HH4, Lib.hid (by rw [HT.out]; exact HA4.out)⟩
            case measure => simp [intOf]; omega
          · skip
            go_simp
            refine hK.out _ _ S2a.out (fun hHeld => ?_)
            clear hK K
            try simp only [Act.put, List.getElem_toArray, List.getElem_cons_succ, List.getElem_cons_zero, List.setIfInBounds_toArray, List.set_cons_zero, List.set_cons_succ]
            refine wpAnyH_ready (rs := [1]) (by kernel_rfl) (by simp) ?_
            refine AllReadyH.cons rfl (fun K hK => ?_) (AllReadyH.nil)
            go_simp
            refine hK.out _ _ hHeld (fun hHeld => ?_)
            clear hK K
            try simp only [Act.put, List.getElem_toArray, List.getElem_cons_succ, List.getElem_cons_zero, List.setIfInBounds_toArray, List.set_cons_zero, List.set_cons_succ]
            refine wpAnyH_ready (rs := [10]) (by kernel_rfl) (by simp) ?_
            refine AllReadyH.cons rfl (fun K hK => ?_) (AllReadyH.nil)
            refine step_app rfl (.tmp 17) (.tmp 25) 63 rfl rfl rfl HR26.out ?_
            refine hK.out _ _ S3.out (fun hHeld => ?_)
            clear hK K
            try simp only [Act.put, List.getElem_toArray, List.getElem_cons_succ, List.getElem_cons_zero, List.setIfInBounds_toArray, List.set_cons_zero, List.set_cons_succ]
            (refine wpAnyH_take (i := 11) (v := ?hv10) rfl (by kernel_rfl) (by kernel_rfl) (by kernel_rfl) (fun _ _ _ h => h) (Or.inl ⟨by kernel_rfl, ?hy10⟩) hHeld ?hr10; case hy10 => (intro w hSw; (try dsimp only at hSw); go_simp; try with_reducible rfl))
            simp only [Act.put, List.getElem_toArray, List.getElem_cons_succ, List.getElem_cons_zero, List.setIfInBounds_toArray, List.set_cons_zero, List.set_cons_succ]
            refine wpAnyH_ready (rs := [12]) (by kernel_rfl) (by simp) ?_
            refine AllReadyH.cons rfl (fun K hK => ?_) (AllReadyH.nil)
            go_simp
            refine hK.out _ _ S4.out (fun hHeld => ?_)
            clear hK K
            try simp only [Act.put, List.getElem_toArray, List.getElem_cons_succ, List.getElem_cons_zero, List.setIfInBounds_toArray, List.set_cons_zero, List.set_cons_succ]
            refine wpAnyH_done (by kernel_rfl) ?_ _
            clear q0 q1 q2 q3 q4 f4
            go_wp2
            go_roundw
            case rel => exact ⟨k + 1, by omega, by go_num, HB4.out, HP4, HQ4, _, _, xs', Sf', HR4, HH4, Lib.hid (by rw [HT.out]; exact HA4.out)⟩
            case measure => simp [intOf]; omega
    · have hdl : decide ((k : Int) < (C.length : Int)) = false := decide_eq_false (by omega)
      have HAC := Lib.hid (show App (Sl R_Label) wr (W.heap.size + 3) hi 120 v C xs Sf from by have h := HA.out; rw [List.take_of_length_le (by omega)] at h; exact h)
      obtain ⟨wq, rfl⟩ : ∃ x, x = wr := ⟨_, rfl⟩
      have hwq : W.heap.size + 3 ≤ wq.heap.size := Nat.le_trans HHI.out HAC.out.le
      have hhq : hi ≤ wq.heap.size := HAC.out.le
      clear hB
      go_wp2
      go_loopw [5] (fun i wr => ∃ k : Nat, k ≤ L.length ∧ i = .int .i64 k ∧ Below W.heap.size W wr ∧ Hid (Blk wr W.heap.size 65 #[.slice ca C.length cc, .slice ja L.length jc, .int .i64 now]) ∧ Hid (Blk wr (W.heap.size + 1) 65 #[.slice none 0 0, .slice none 0 0, .int .i64 0]) ∧ Hid (App (Sl R_Label) wr (W.heap.size + 3) hi 120 v C xs Sf) ∧ ∃ u hj ys Sg, Hid (Blk wr (W.heap.size + 2) 65 #[v, u, .int .i64 now]) ∧ Hid (wq.heap.size ≤ hj) ∧ Hid (App R_Job wr wq.heap.size hj 45 u (L.take k) ys Sg)) (fun i _ => L.length - (intOf i).toNat)
      case atStart => exact ⟨0, Nat.zero_le _, rfl, HB.out, HP, HQ, HAC, _, _, _, _, HR, Lib.hid (Nat.le_refl _), Lib.hid (App.none_ _ _ _ (Nat.le_refl _))⟩
      case round =>
        obtain ⟨j, hj, rfl, hB, HP, HQ, HAC, u, hh, ys, Sg, HR, HHJ, HA2⟩ := hrel
        have HB := Lib.hid hB
        have hsz := hB.size
        have p0 := HP.out.at_ 0 rfl
        have p1 := HP.out.at_ 1 rfl
        by_cases hlj : j < L.length
        · have hdj : decide ((j : Int) < (L.length : Int)) = true := decide_eq_true (by omega)
          obtain ⟨⟨⟨x0, x1⟩, x2, x3, x4, x5, x6, x7, L0⟩, hx⟩ := el_some hlj
          have HX := Lib.hid hx
          obtain ⟨g, o, us, rfl, hg, hu, hr⟩ := HL.out.at_ hx
          obtain ⟨a0, c0, rfl, k_L0⟩ := rd_Job hr
          have e0 : wr.cell? ⟨g, o + j * 9, none⟩ = some (.int .i64 x0) := (hB.cell (p := ⟨g, o + j * 9, none⟩) hg).trans (by simpa [sizeq_JobS, Nat.add_assoc] using hu 0 _ rfl)
          have e1 : wr.cell? ⟨g, o + j * 9 + 1, none⟩ = some (.int .i64 x1) := (hB.cell (p := ⟨g, o + j * 9 + 1, none⟩) hg).trans (by simpa [sizeq_JobS, Nat.add_assoc] using hu 1 _ rfl)
          have e2 : wr.cell? ⟨g, o + j * 9 + 2, none⟩ = some (.int .i64 x2) := (hB.cell (p := ⟨g, o + j * 9 + 2, none⟩) hg).trans (by simpa [sizeq_JobS, Nat.add_assoc] using hu 2 _ rfl)
          have e3 : wr.cell? ⟨g, o + j * 9 + 3, none⟩ = some (.int .i64 x3) := (hB.cell (p := ⟨g, o + j * 9 + 3, none⟩) hg).trans (by simpa [sizeq_JobS, Nat.add_assoc] using hu 3 _ rfl)
          have e4 : wr.cell? ⟨g, o + j * 9 + 4, none⟩ = some (.int .i64 x4) := (hB.cell (p := ⟨g, o + j * 9 + 4, none⟩) hg).trans (by simpa [sizeq_JobS, Nat.add_assoc] using hu 4 _ rfl)
          have e5 : wr.cell? ⟨g, o + j * 9 + 5, none⟩ = some (.int .i64 x5) := (hB.cell (p := ⟨g, o + j * 9 + 5, none⟩) hg).trans (by simpa [sizeq_JobS, Nat.add_assoc] using hu 5 _ rfl)
          have e6 : wr.cell? ⟨g, o + j * 9 + 6, none⟩ = some (.int .i64 x6) := (hB.cell (p := ⟨g, o + j * 9 + 6, none⟩) hg).trans (by simpa [sizeq_JobS, Nat.add_assoc] using hu 6 _ rfl)
          have e7 : wr.cell? ⟨g, o + j * 9 + 7, none⟩ = some (.int .i64 x7) := (hB.cell (p := ⟨g, o + j * 9 + 7, none⟩) hg).trans (by simpa [sizeq_JobS, Nat.add_assoc] using hu 7 _ rfl)
          have e8 : wr.cell? ⟨g, o + j * 9 + 8, none⟩ = some (.slice a0 L0.length c0) := (hB.cell (p := ⟨g, o + j * 9 + 8, none⟩) hg).trans (by simpa [sizeq_JobS, Nat.add_assoc] using hu 8 _ rfl)
          have hi0 : (0 : Int) ≤ (j : Int) := Int.natCast_nonneg _
          have hi1 : (j : Int) < (L.length : Int) := by omega
          have HL0 := Lib.hid (show L0.length ≤ 1048576 from Nat.le_trans (by simp only [R_Job, R_Label, Pr, Sl, I, atom]; omega) (sz_at (f := R_Job.sz) hx HZL.out))
          have HK := Lib.hid (show RdSl I wr.drew wr.drew.heap.size L0 a0 c0 from ((k_L0.below I_ok hB).more I_ok hsz).below I_ok ((Below.refl _ _).drew))
          have hle2 : W.heap.size + 2 ≤ wr.heap.size := by have := HQ.out.lt; omega
          have hT : L.take (j + 1) = L.take j ++ [((x0, x1), x2, x3, x4, x5, x6, x7, L0)] := by rw [List.take_add_one, hx]; rfl
          have HT := Lib.hid hT
          have q0 : wr.cell? ⟨W.heap.size + 1 + 1, 1, none⟩ = some u := HR.out.at_ 1 rfl
          have hlr : W.heap.size + 2 < wr.heap.size := HR.out.lt
          clear hu hr k_L0 hx hT hB
          go_wp2_with fail
          refine wp_region_held_drew (S := (fun V => Below (W.heap.size + 2) wr V)) (by kernel_rfl) (((Below.refl (W.heap.size + 2) wr).drew)) (fun hHeld => ?_)
          (refine wpAnyH_take (i := 0) (v := ?hv11) rfl (by kernel_rfl) (by kernel_rfl) (by kernel_rfl) (fun _ _ _ h => h) (Or.inl ⟨by kernel_rfl, ?hy11⟩) hHeld ?hr11; case hy11 => (intro w hSw; (try dsimp only at hSw); go_simp; try with_reducible rfl))
          simp only [Act.put, List.getElem_toArray, List.getElem_cons_succ, List.getElem_cons_zero, List.setIfInBounds_toArray, List.set_cons_zero, List.set_cons_succ]
          (refine wpAnyH_take (i := 2) (v := ?hv12) rfl (by kernel_rfl) (by kernel_rfl) (by kernel_rfl) (fun _ _ _ h => h) (Or.inl ⟨by kernel_rfl, ?hy12⟩) hHeld ?hr12; case hy12 => (intro w hSw; (try dsimp only at hSw); go_simp; try with_reducible rfl))
          simp only [Act.put, List.getElem_toArray, List.getElem_cons_succ, List.getElem_cons_zero, List.setIfInBounds_toArray, List.set_cons_zero, List.set_cons_succ]
          (refine wpAnyH_take (i := 3) (v := ?hv13) rfl (by kernel_rfl) (by kernel_rfl) (by kernel_rfl) (fun _ _ _ h => h) (Or.inl ⟨by kernel_rfl, ?hy13⟩) hHeld ?hr13; case hy13 => (intro w hSw; (try dsimp only at hSw); have k0 := (hSw.cell (p := ⟨W.heap.size, 1, none⟩) (by show W.heap.size < W.heap.size + 2; omega)).trans p1; clear hSw; go_simp; try with_reducible rfl))
          simp only [Act.put, List.getElem_toArray, List.getElem_cons_succ, List.getElem_cons_zero, List.setIfInBounds_toArray, List.set_cons_zero, List.set_cons_succ]
          (refine wpAnyH_take (i := 4) (v := ?hv14) rfl (by kernel_rfl) (by kernel_rfl) (by kernel_rfl) (fun _ _ _ h => h) (Or.inl ⟨by kernel_rfl, ?hy14⟩) hHeld ?hr14; case hy14 => (intro w hSw; (try dsimp only at hSw); go_simp; try with_reducible rfl))
          simp only [Act.put, List.getElem_toArray, List.getElem_cons_succ, List.getElem_cons_zero, List.setIfInBounds_toArray, List.set_cons_zero, List.set_cons_succ]
          (refine wpAnyH_take (i := 5) (v := ?hv15) rfl (by kernel_rfl) (by kernel_rfl) (by kernel_rfl) (fun _ _ _ h => h) (Or.inl ⟨by kernel_rfl, ?hy15⟩) hHeld ?hr15; case hy15 => (intro w hSw; (try dsimp only at hSw); go_simp; try with_reducible rfl))
          simp only [Act.put, List.getElem_toArray, List.getElem_cons_succ, List.getElem_cons_zero, List.setIfInBounds_toArray, List.set_cons_zero, List.set_cons_succ]
          (refine wpAnyH_take (i := 6) (v := ?hv16) rfl (by kernel_rfl) (by kernel_rfl) (by kernel_rfl) (fun _ _ _ h => h) (Or.inl ⟨by kernel_rfl, ?hy16⟩) hHeld ?hr16; case hy16 => (intro w hSw; (try dsimp only at hSw); have k0 := (hSw.cell (p := ⟨g, o + j * 9, none⟩) (by show g < W.heap.size + 2; omega)).trans e0; have k1 := (hSw.cell (p := ⟨g, o + j * 9 + 1, none⟩) (by show g < W.heap.size + 2; omega)).trans e1; have k2 := (hSw.cell (p := ⟨g, o + j * 9 + 2, none⟩) (by show g < W.heap.size + 2; omega)).trans e2; have k3 := (hSw.cell (p := ⟨g, o + j * 9 + 3, none⟩) (by show g < W.heap.size + 2; omega)).trans e3; have k4 := (hSw.cell (p := ⟨g, o + j * 9 + 4, none⟩) (by show g < W.heap.size + 2; omega)).trans e4; have k5 := (hSw.cell (p := ⟨g, o + j * 9 + 5, none⟩) (by show g < W.heap.size + 2; omega)).trans e5; have k6 := (hSw.cell (p := ⟨g, o + j * 9 + 6, none⟩) (by show g < W.heap.size + 2; omega)).trans e6; have k7 := (hSw.cell (p := ⟨g, o + j * 9 + 7, none⟩) (by show g < W.heap.size + 2; omega)).trans e7; have k8 := (hSw.cell (p := ⟨g, o + j * 9 + 8, none⟩) (by show g < W.heap.size + 2; omega)).trans e8; clear hSw; go_simp; try with_reducible rfl))
          simp only [Act.put, List.getElem_toArray, List.getElem_cons_succ, List.getElem_cons_zero, List.setIfInBounds_toArray, List.set_cons_zero, List.set_cons_succ]
          refine wpAnyH_ready (rs := [1, 7]) (by kernel_rfl) (by simp) ?_
          refine AllReadyH.cons rfl (fun K hK => ?_) (AllReadyH.cons rfl (fun K hK => ?_) (AllReadyH.nil))
          · skip
            go_simp
            refine hK.out _ _ hHeld (fun hHeld => ?_)
            clear hK K
            try simp only [Act.put, List.getElem_toArray, List.getElem_cons_succ, List.getElem_cons_zero, List.setIfInBounds_toArray, List.set_cons_zero, List.set_cons_succ]
            refine wpAnyH_ready (rs := [7]) (by kernel_rfl) (by simp) ?_
            refine AllReadyH.cons rfl (fun K hK => ?_) (AllReadyH.nil)
            go_simp
            go_at_call 88
            refine (copy_spec HL0.out HK.out).mono ?_
            intro e w5 h
            obtain ⟨us, rfl, hu, hb⟩ := newV_elim h
            have hu0 := hu
            obtain ⟨a5, c5, T5, rfl, hT5, ho5⟩ := ow_Job hu
            have hb5 : Below wr.heap.size wr w5 := ((Below.refl _ _).drew).trans hb
            have hbA : Below w5.heap.size w5 (w5.alloc (.cells #[.int .i64 x0, .int .i64 x1, .int .i64 x2, .int .i64 x3, .int .i64 x4, .int .i64 x5, .int .i64 x6, .int .i64 x7, .slice a5 L0.length c5] 45)) := (Below.refl _ _).alloc (Nat.le_refl _) _
            have hb5a := hb5.trans (hbA.mono hb5.size)
            have hrow := Blk.new w5 45 #[.int .i64 x0, .int .i64 x1, .int .i64 x2, .int .i64 x3, .int .i64 x4, .int .i64 x5, .int .i64 x6, .int .i64 x7, .slice a5 L0.length c5]
            have hA3 := (HA2.out.call R_Job_ok hb5).call R_Job_ok hbA
            have hleJ := HA2.out.le
            obtain ⟨iJ, hiJ, hzJ, hsJ, hbJ⟩ := m_infoJob
            obtain ⟨v', w6, ys', Sg', hr9, hA4, hg4⟩ := hA3.app (P := Try.prog) (ty := 48) (c := 1) R_Job_ok Try.underlying48 hiJ hzJ hsJ hbJ rfl (by decide) (x := ((x0, x1), x2, x3, x4, x5, x6, x7, L0)) (us := [.int .i64 x0, .int .i64 x1, .int .i64 x2, .int .i64 x3, .int .i64 x4, .int .i64 x5, .int .i64 x6, .int .i64 x7, .slice a5 L0.length c5]) (Sx := Rg wr.drew.heap.size w5.heap.size) (blk := w5.heap.size) (fun p y hp => hrow.at_ p (by simpa using hp)) (R_Job_ok.ow_keep hu0 fun p hp => hbA.block p hp.2) (fun p hp => ⟨Nat.le_trans hleJ hp.1, Nat.lt_of_lt_of_le hp.2 hbA.size⟩) HHJ.out (by rw [List.length_take]; unfold maxLen; omega) (by rw [List.length_take]; omega)
            obtain ⟨a6, n6, c6, rfl⟩ : ∃ a n c, v' = .slice a n c := by
              obtain ⟨a, c, e⟩ := hA4.isSlice
              exact ⟨a, _, c, e⟩
            have HR9 := Lib.hid hr9
            have hown : ∀ p, u.ownBlock = some p → wq.heap.size ≤ p := fun p hp => (HA2.out.blk p hp).1
            have S5a := Lib.hid (hb5a.mono hle2)
            have S6 := Lib.hid ((hb5a.mono hle2).trans (below_own hg4 (fun p hp => by have := hown p hp; omega) (Nat.le_trans hle2 hb5a.size)))
            have S7 := Lib.hid (S6.out.setCell (p := ⟨W.heap.size + 1 + 1, 1, none⟩) (Nat.le_refl _) (.slice a6 n6 c6))
            have R6 := Lib.hid (show Blk w6 (W.heap.size + 2) 65 #[v, u, .int .i64 now] from (hg4.block (W.heap.size + 2) ((HR.out.call hb5a).lt) (fun e => by have := hown _ e.symm; omega)).trans (HR.out.call hb5a))
            have q5 : w5.cell? ⟨W.heap.size + 1 + 1, 1, none⟩ = some u := (HR.out.call hb5).at_ 1 rfl
            have q6 : (w5.alloc (.cells #[.int .i64 x0, .int .i64 x1, .int .i64 x2, .int .i64 x3, .int .i64 x4, .int .i64 x5, .int .i64 x6, .int .i64 x7, .slice a5 L0.length c5] 45)).cell? ⟨W.heap.size + 1 + 1, 1, none⟩ = some u := (HR.out.call hb5a).at_ 1 rfl
            have q7 : w6.cell? ⟨W.heap.size + 1 + 1, 1, none⟩ = some u := R6.out.at_ 1 rfl
            have f7 : w6.frozen? ⟨W.heap.size + 1 + 1, 1, none⟩ = false := R6.out.soft 1
            have HA7 := Lib.hid (hA4.mv (w' := w6.setCell ⟨W.heap.size + 1 + 1, 1, none⟩ (.slice a6 n6 c6)) R_Job_ok (by simp [World.setCell]) (fun p hp _ => Below.heap_setCell w6 ⟨W.heap.size + 1 + 1, 1, none⟩ _ p (by show p ≠ W.heap.size + 1 + 1; omega)))
            have HAC7 := Lib.hid ((((HAC.out.call (Sl_ok R_Label_ok) hb5a).mv (w' := w6) (Sl_ok R_Label_ok) hg4.size (fun p hp hp2 => hg4.block p (by have := hb5a.size; have := HHJ.out; omega) (fun e => by have := hown p e.symm; omega)))).mv (w' := w6.setCell ⟨W.heap.size + 1 + 1, 1, none⟩ (.slice a6 n6 c6)) (Sl_ok R_Label_ok) (by simp [World.setCell]) (fun p hp _ => Below.heap_setCell w6 ⟨W.heap.size + 1 + 1, 1, none⟩ _ p (by show p ≠ W.heap.size + 1 + 1; omega)))
            have HH7 := Lib.hid (show wq.heap.size ≤ w6.heap.size from Nat.le_trans (Nat.le_trans HHJ.out hA3.le) hg4.size)
            have HB7 := Lib.hid (HB.out.trans (S7.out.mono (by omega)))
            have HP7 := Lib.hid (show Blk _ W.heap.size 65 _ from (S7.out.block W.heap.size (by omega)).trans HP.out)
            have HQ7 := Lib.hid (show Blk _ (W.heap.size + 1) 65 _ from (S7.out.block (W.heap.size + 1) (by omega)).trans HQ.out)
            have HR7 := Lib.hid (show Blk (w6.setCell ⟨W.heap.size + 1 + 1, 1, none⟩ (.slice a6 n6 c6)) (W.heap.size + 2) 65 #[v, .slice a6 n6 c6, .int .i64 now] from (R6.out.set 1 (.slice a6 n6 c6)).as rfl)
            have S5 := hb5.mono hle2
            clear h hu hb hu0 hT5 ho5 hb5 hbA hb5a hrow hA3 hleJ hiJ hzJ hsJ hbJ hr9 hA4 hg4 hown
            refine hK.out _ _ S5 (fun hHeld => ?_)
            clear S5
            clear hK K
            try simp only [Act.put, List.getElem_toArray, List.getElem_cons_succ, List.getElem_cons_zero, List.setIfInBounds_toArray, List.set_cons_zero, List.set_cons_succ]
            refine wpAnyH_ready (rs := [8]) (by kernel_rfl) (by simp) ?_
            refine AllReadyH.cons rfl (fun K hK => ?_) (AllReadyH.nil)
            go_simp
            refine hK.out _ _ S5a.out (fun hHeld => ?_)
            clear hK K
            try simp only [Act.put, List.getElem_toArray, List.getElem_cons_succ, List.getElem_cons_zero, List.setIfInBounds_toArray, List.set_cons_zero, List.set_cons_succ]
            refine wpAnyH_ready (rs := [9]) (by kernel_rfl) (by simp) ?_
            refine AllReadyH.cons rfl (fun K hK => ?_) (AllReadyH.nil)
            refine step_app rfl (.tmp 36) (.tmp 43) 48 rfl rfl rfl HR9.out ?_
            refine hK.out _ _ S6.out (fun hHeld => ?_)
            clear hK K
            try simp only [Act.put, List.getElem_toArray, List.getElem_cons_succ, List.getElem_cons_zero, List.setIfInBounds_toArray, List.set_cons_zero, List.set_cons_succ]
            (refine wpAnyH_take (i := 10) (v := ?hv17) rfl (by kernel_rfl) (by kernel_rfl) (by kernel_rfl) (fun _ _ _ h => h) (Or.inl ⟨by kernel_rfl, ?hy17⟩) hHeld ?hr17; case hy17 => (intro w hSw; (try dsimp only at hSw); go_simp; try with_reducible rfl))
            simp only [Act.put, List.getElem_toArray, List.getElem_cons_succ, List.getElem_cons_zero, List.setIfInBounds_toArray, List.set_cons_zero, List.set_cons_succ]
            refine wpAnyH_ready (rs := [11]) (by kernel_rfl) (by simp) ?_
            refine AllReadyH.cons rfl (fun K hK => ?_) (AllReadyH.nil)
            go_simp
            refine hK.out _ _ S7.out (fun hHeld => ?_)
            clear hK K
            try simp only [Act.put, List.getElem_toArray, List.getElem_cons_succ, List.getElem_cons_zero, List.setIfInBounds_toArray, List.set_cons_zero, List.set_cons_succ]
            refine wpAnyH_done (by kernel_rfl) ?_ _
            clear q0 q5 q6 q7 f7
            go_wp2
            go_roundw
            case rel => exact ⟨j + 1, by omega, by go_num, HB7.out, HP7, HQ7, HAC7, _, _, ys', Sg', HR7, HH7, Lib.hid (by rw [HT.out]; exact HA7.out)⟩
            case measure => simp [intOf]; omega
          · skip
            go_simp
            go_at_call 88
            refine (copy_spec HL0.out HK.out).mono ?_
            intro e w5 h
            obtain ⟨us, rfl, hu, hb⟩ := newV_elim h
            have hu0 := hu
            obtain ⟨a5, c5, T5, rfl, hT5, ho5⟩ := ow_Job hu
            have hb5 : Below wr.heap.size wr w5 := ((Below.refl _ _).drew).trans hb
            have hbA : Below w5.heap.size w5 (w5.alloc (.cells #[.int .i64 x0, .int .i64 x1, .int .i64 x2, .int .i64 x3, .int .i64 x4, .int .i64 x5, .int .i64 x6, .int .i64 x7, .slice a5 L0.length c5] 45)) := (Below.refl _ _).alloc (Nat.le_refl _) _
            have hb5a := hb5.trans (hbA.mono hb5.size)
            have hrow := Blk.new w5 45 #[.int .i64 x0, .int .i64 x1, .int .i64 x2, .int .i64 x3, .int .i64 x4, .int .i64 x5, .int .i64 x6, .int .i64 x7, .slice a5 L0.length c5]
            have hA3 := (HA2.out.call R_Job_ok hb5).call R_Job_ok hbA
            have hleJ := HA2.out.le
            obtain ⟨iJ, hiJ, hzJ, hsJ, hbJ⟩ := m_infoJob
            obtain ⟨v', w6, ys', Sg', hr9, hA4, hg4⟩ := hA3.app (P := Try.prog) (ty := 48) (c := 1) R_Job_ok Try.underlying48 hiJ hzJ hsJ hbJ rfl (by decide) (x := ((x0, x1), x2, x3, x4, x5, x6, x7, L0)) (us := [.int .i64 x0, .int .i64 x1, .int .i64 x2, .int .i64 x3, .int .i64 x4, .int .i64 x5, .int .i64 x6, .int .i64 x7, .slice a5 L0.length c5]) (Sx := Rg wr.drew.heap.size w5.heap.size) (blk := w5.heap.size) (fun p y hp => hrow.at_ p (by simpa using hp)) (R_Job_ok.ow_keep hu0 fun p hp => hbA.block p hp.2) (fun p hp => ⟨Nat.le_trans hleJ hp.1, Nat.lt_of_lt_of_le hp.2 hbA.size⟩) HHJ.out (by rw [List.length_take]; unfold maxLen; omega) (by rw [List.length_take]; omega)
            obtain ⟨a6, n6, c6, rfl⟩ : ∃ a n c, v' = .slice a n c := by
              obtain ⟨a, c, e⟩ := hA4.isSlice
              exact ⟨a, _, c, e⟩
            have HR9 := Lib.hid hr9
            have hown : ∀ p, u.ownBlock = some p → wq.heap.size ≤ p := fun p hp => (HA2.out.blk p hp).1
            have S5a := Lib.hid (hb5a.mono hle2)
            have S6 := Lib.hid ((hb5a.mono hle2).trans (below_own hg4 (fun p hp => by have := hown p hp; omega) (Nat.le_trans hle2 hb5a.size)))
            have S7 := Lib.hid (S6.out.setCell (p := ⟨W.heap.size + 1 + 1, 1, none⟩) (Nat.le_refl _) (.slice a6 n6 c6))
            have R6 := Lib.hid (show Blk w6 (W.heap.size + 2) 65 #[v, u, .int .i64 now] from (hg4.block (W.heap.size + 2) ((HR.out.call hb5a).lt) (fun e => by have := hown _ e.symm; omega)).trans (HR.out.call hb5a))
            have q5 : w5.cell? ⟨W.heap.size + 1 + 1, 1, none⟩ = some u := (HR.out.call hb5).at_ 1 rfl
            have q6 : (w5.alloc (.cells #[.int .i64 x0, .int .i64 x1, .int .i64 x2, .int .i64 x3, .int .i64 x4, .int .i64 x5, .int .i64 x6, .int .i64 x7, .slice a5 L0.length c5] 45)).cell? ⟨W.heap.size + 1 + 1, 1, none⟩ = some u := (HR.out.call hb5a).at_ 1 rfl
            have q7 : w6.cell? ⟨W.heap.size + 1 + 1, 1, none⟩ = some u := R6.out.at_ 1 rfl
            have f7 : w6.frozen? ⟨W.heap.size + 1 + 1, 1, none⟩ = false := R6.out.soft 1
            have HA7 := Lib.hid (hA4.mv (w' := w6.setCell ⟨W.heap.size + 1 + 1, 1, none⟩ (.slice a6 n6 c6)) R_Job_ok (by simp [World.setCell]) (fun p hp _ => Below.heap_setCell w6 ⟨W.heap.size + 1 + 1, 1, none⟩ _ p (by show p ≠ W.heap.size + 1 + 1; omega)))
            have HAC7 := Lib.hid ((((HAC.out.call (Sl_ok R_Label_ok) hb5a).mv (w' := w6) (Sl_ok R_Label_ok) hg4.size (fun p hp hp2 => hg4.block p (by have := hb5a.size; have := HHJ.out; omega) (fun e => by have := hown p e.symm; omega)))).mv (w' := w6.setCell ⟨W.heap.size + 1 + 1, 1, none⟩ (.slice a6 n6 c6)) (Sl_ok R_Label_ok) (by simp [World.setCell]) (fun p hp _ => Below.heap_setCell w6 ⟨W.heap.size + 1 + 1, 1, none⟩ _ p (by show p ≠ W.heap.size + 1 + 1; omega)))
            have HH7 := Lib.hid (show wq.heap.size ≤ w6.heap.size from Nat.le_trans (Nat.le_trans HHJ.out hA3.le) hg4.size)
            have HB7 := Lib.hid (HB.out.trans (S7.out.mono (by omega)))
            have HP7 := Lib.hid (show Blk _ W.heap.size 65 _ from (S7.out.block W.heap.size (by omega)).trans HP.out)
            have HQ7 := Lib.hid (show Blk _ (W.heap.size + 1) 65 _ from (S7.out.block (W.heap.size + 1) (by omega)).trans HQ.out)
            have HR7 := Lib.hid (show Blk (w6.setCell ⟨W.heap.size + 1 + 1, 1, none⟩ (.slice a6 n6 c6)) (W.heap.size + 2) 65 #[v, .slice a6 n6 c6, .int .i64 now] from (R6.out.set 1 (.slice a6 n6 c6)).as rfl)
            have S5 := hb5.mono hle2
            clear h hu hb hu0 hT5 ho5 hb5 hbA hb5a hrow hA3 hleJ hiJ hzJ hsJ hbJ hr9 hA4 hg4 hown
            refine hK.out _ _ S5 (fun hHeld => ?_)
            clear S5
            clear hK K
            try simp only [Act.put, List.getElem_toArray, List.getElem_cons_succ, List.getElem_cons_zero, List.setIfInBounds_toArray, List.set_cons_zero, List.set_cons_succ]
            refine wpAnyH_ready (rs := [1, 8]) (by kernel_rfl) (by simp) ?_
            refine AllReadyH.cons rfl (fun K hK => ?_) (AllReadyH.cons rfl (fun K hK => ?_) (AllReadyH.nil))
            · skip
              go_simp
              refine hK.out _ _ hHeld (fun hHeld => ?_)
              clear hK K
              try simp only [Act.put, List.getElem_toArray, List.getElem_cons_succ, List.getElem_cons_zero, List.setIfInBounds_toArray, List.set_cons_zero, List.set_cons_succ]
              refine wpAnyH_ready (rs := [8]) (by kernel_rfl) (by simp) ?_
              refine AllReadyH.cons rfl (fun K hK => ?_) (AllReadyH.nil)
              go_simp
              refine hK.out _ _ S5a.out (fun hHeld => ?_)
              clear hK K
              try simp only [Act.put, List.getElem_toArray, List.getElem_cons_succ, List.getElem_cons_zero, List.setIfInBounds_toArray, List.set_cons_zero, List.set_cons_succ]
              refine wpAnyH_ready (rs := [9]) (by kernel_rfl) (by simp) ?_
              refine AllReadyH.cons rfl (fun K hK => ?_) (AllReadyH.nil)
              refine step_app rfl (.tmp 36) (.tmp 43) 48 rfl rfl rfl HR9.out ?_
              refine hK.out _ _ S6.out (fun hHeld => ?_)
              clear hK K
              try simp only [Act.put, List.getElem_toArray, List.getElem_cons_succ, List.getElem_cons_zero, List.setIfInBounds_toArray, List.set_cons_zero, List.set_cons_succ]
              (refine wpAnyH_take (i := 10) (v := ?hv18) rfl (by kernel_rfl) (by kernel_rfl) (by kernel_rfl) (fun _ _ _ h => h) (Or.inl ⟨by kernel_rfl, ?hy18⟩) hHeld ?hr18; case hy18 => (intro w hSw; (try dsimp only at hSw); go_simp; try with_reducible rfl))
              simp only [Act.put, List.getElem_toArray, List.getElem_cons_succ, List.getElem_cons_zero, List.setIfInBounds_toArray, List.set_cons_zero, List.set_cons_succ]
              refine wpAnyH_ready (rs := [11]) (by kernel_rfl) (by simp) ?_
              refine AllReadyH.cons rfl (fun K hK => ?_) (AllReadyH.nil)
              go_simp
              refine hK.out _ _ S7.out (fun hHeld => ?_)
              clear hK K
              try simp only [Act.put, List.getElem_toArray, List.getElem_cons_succ, List.getElem_cons_zero, List.setIfInBounds_toArray, List.set_cons_zero, List.set_cons_succ]
              refine wpAnyH_done (by kernel_rfl) ?_ _
              clear q0 q5 q6 q7 f7
              go_wp2
              go_roundw
              case rel => exact ⟨j + 1, by omega, by go_num, HB7.out, HP7, HQ7, HAC7, _, _, ys', Sg', HR7, HH7, Lib.hid (by rw [HT.out]; exact HA7.out)⟩
              case measure => simp [intOf]; omega
            · skip
              go_simp
              refine hK.out _ _ S5a.out (fun hHeld => ?_)
              clear hK K
              try simp only [Act.put, List.getElem_toArray, List.getElem_cons_succ, List.getElem_cons_zero, List.setIfInBounds_toArray, List.set_cons_zero, List.set_cons_succ]
              refine wpAnyH_ready (rs := [1]) (by kernel_rfl) (by simp) ?_
              refine AllReadyH.cons rfl (fun K hK => ?_) (AllReadyH.nil)
              go_simp
              refine hK.out _ _ hHeld (fun hHeld => ?_)
              clear hK K
              try simp only [Act.put, List.getElem_toArray, List.getElem_cons_succ, List.getElem_cons_zero, List.setIfInBounds_toArray, List.set_cons_zero, List.set_cons_succ]
              refine wpAnyH_ready (rs := [9]) (by kernel_rfl) (by simp) ?_
              refine AllReadyH.cons rfl (fun K hK => ?_) (AllReadyH.nil)
              refine step_app rfl (.tmp 36) (.tmp 43) 48 rfl rfl rfl HR9.out ?_
              refine hK.out _ _ S6.out (fun hHeld => ?_)
              clear hK K
              try simp only [Act.put, List.getElem_toArray, List.getElem_cons_succ, List.getElem_cons_zero, List.setIfInBounds_toArray, List.set_cons_zero, List.set_cons_succ]
              (refine wpAnyH_take (i := 10) (v := ?hv19) rfl (by kernel_rfl) (by kernel_rfl) (by kernel_rfl) (fun _ _ _ h => h) (Or.inl ⟨by kernel_rfl, ?hy19⟩) hHeld ?hr19; case hy19 => (intro w hSw; (try dsimp only at hSw); go_simp; try with_reducible rfl))
              simp only [Act.put, List.getElem_toArray, List.getElem_cons_succ, List.getElem_cons_zero, List.setIfInBounds_toArray, List.set_cons_zero, List.set_cons_succ]
              refine wpAnyH_ready (rs := [11]) (by kernel_rfl) (by simp) ?_
              refine AllReadyH.cons rfl (fun K hK => ?_) (AllReadyH.nil)
              go_simp
              refine hK.out _ _ S7.out (fun hHeld => ?_)
              clear hK K
              try simp only [Act.put, List.getElem_toArray, List.getElem_cons_succ, List.getElem_cons_zero, List.setIfInBounds_toArray, List.set_cons_zero, List.set_cons_succ]
              refine wpAnyH_done (by kernel_rfl) ?_ _
              clear q0 q5 q6 q7 f7
              go_wp2
              go_roundw
              case rel => exact ⟨j + 1, by omega, by go_num, HB7.out, HP7, HQ7, HAC7, _, _, ys', Sg', HR7, HH7, Lib.hid (by rw [HT.out]; exact HA7.out)⟩
              case measure => simp [intOf]; omega
        · have hdj : decide ((j : Int) < (L.length : Int)) = false := decide_eq_false (by omega)
          have hA2 : App R_Job wr wq.heap.size hh 45 u L ys Sg := by have h := HA2.out; rw [List.take_of_length_le (by omega)] at h; exact h
          have hle := hA2.le
          have hhj := HHJ.out
          obtain ⟨ca', cc', hv⟩ := HAC.out.isSlice
          subst hv
          obtain ⟨ja', jc', hu⟩ := hA2.isSlice
          subst hu
          have HOL := Lib.hid hA2
          have hhi := HHI.out
          have r0 : wr.cell? ⟨W.heap.size + 1 + 1, 0, none⟩ = some _ := HR.out.at_ 0 rfl
          have r1 : wr.cell? ⟨W.heap.size + 1 + 1, 1, none⟩ = some _ := HR.out.at_ 1 rfl
          have r2 : wr.cell? ⟨W.heap.size + 1 + 1, 2, none⟩ = some _ := HR.out.at_ 2 rfl
          have t0 := HQ.out.at_ 0 rfl
          have t1 := HQ.out.at_ 1 rfl
          have t2 := HQ.out.at_ 2 rfl
          have f0 := HQ.out.soft 0
          have f1 := HQ.out.soft 1
          have f2 := HQ.out.soft 2
          clear hA2 hB
          go_wp2
          have hoff : Off (fun x => x = W.heap.size + 1) wr (((wr.setCell ⟨W.heap.size + 1, 0, none⟩ (.slice ca' C.length cc')).setCell ⟨W.heap.size + 1, 1, none⟩ (.slice ja' L.length jc')).setCell ⟨W.heap.size + 1, 2, none⟩ (.int .i64 now)) := (((Off.refl (fun x => x = W.heap.size + 1) wr).setCell (p := ⟨W.heap.size + 1, 0, none⟩) rfl _).setCell (p := ⟨W.heap.size + 1, 1, none⟩) rfl _).setCell (p := ⟨W.heap.size + 1, 2, none⟩) rfl _
          have hsf := hoff.size
          refine bodyPost_ret (v := .agg #[.slice ca' C.length cc', .slice ja' L.length jc', .int .i64 now]) (by simp [results, Try.results107, go_sem, *]) rfl ⟨ca', cc', ja', jc', _, _, _, _, _, _, _, _, rfl, HAC.out.mv (Sl_ok R_Label_ok) hsf (fun p hp hp2 => hoff.block p (by omega) (by omega)), HOL.out.mv R_Job_ok hsf (fun p hp hp2 => hoff.block p (by omega) (by omega)), by omega, hhi, hhq, hhj, ((HB.out.setCell (p := ⟨W.heap.size + 1, 0, none⟩) (by show W.heap.size ≤ W.heap.size + 1; omega) _).setCell (p := ⟨W.heap.size + 1, 1, none⟩) (by show W.heap.size ≤ W.heap.size + 1; omega) _).setCell (p := ⟨W.heap.size + 1, 2, none⟩) (by show W.heap.size ≤ W.heap.size + 1; omega) _⟩
end Go.Proofs.Ytjpkeofpcpaoaaa.RepC
