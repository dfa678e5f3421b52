/- The model's draws of labels for the laws: l02Chain, DrawChain. -/
import Derived.Test.YtdimpopkkjpddaaDoorLDraw
import Derived.Test.YtdimpopkkjpddaaDoorLabJoin
import Derived.Test.YtdimpopkkjpddaaDoorAppN
import Derived.Deep.QuietTactic
import Derived.BigQuiet
namespace Go.Proofs.YtdimpopkkjpddaaDoor.DrawC
open Go.RowKit RepC
set_option linter.unusedVariables false
set_option linter.unusedSimpArgs false

theorem app_one (W : World) (l s : Int) (T : TypeId) :
    App R_Label (W.alloc (.cells #[.int .i64 l, .int .i64 s] T)) W.heap.size (W.heap.size + 1) T (.slice (some ⟨W.heap.size, 0, none⟩) 1 1) [(l, s)] [.int .i64 l, .int .i64 s] (fun _ _ => False) := by
  refine ⟨⟨rfl, .inr ⟨W.heap.size, 1, #[.int .i64 l, .int .i64 s], rfl, Nat.le_refl _, heap_alloc_new W _, Nat.le_refl _, by decide, rfl, rfl⟩⟩, fun i x hx => ?_, fun i k h => h.elim, fun i j k _ h => h.elim, fun k hk => (by cases hk; exact ⟨Nat.le_refl _, Nat.lt_succ_self _⟩), by simp⟩
  match i, hx with
  | 0, hx =>
    obtain rfl := Option.some.inj hx
    exact ⟨[.int .i64 l, .int .i64 s], fun j c hj => by rw [Nat.zero_mul, Nat.zero_add]; exact hj, mkow_Label⟩
  | i + 1, hx => simp at hx

theorem app_lower {w : World} {lo lo' hi : Nat} {T : TypeId} {v : Value} {L : List D_Label} {xs : List Value} {Sf : Nat → Nat → Prop} (h : App R_Label w lo hi T v L xs Sf) (hl : lo' ≤ lo) : App R_Label w lo' hi T v L xs Sf := by
  refine ⟨?_, h.el, fun i k hk => ⟨Nat.le_trans hl (h.sub i k hk).1, (h.sub i k hk).2⟩, h.dis, fun k hk => ⟨Nat.le_trans hl (h.blk k hk).1, (h.blk k hk).2⟩, h.le⟩
  obtain ⟨h1, h2⟩ := h.own
  refine ⟨h1, ?_⟩
  rcases h2 with hn | ⟨g, cap, cur, rfl, hg, rest⟩
  · exact .inl hn
  · exact .inr ⟨g, cap, cur, rfl, Nat.le_trans hl hg, rest⟩
theorem app_last {w : World} {lo hi : Nat} {T : TypeId} {v : Value} {L : List D_Label} {xs : List Value} {Sf : Nat → Nat → Prop} (h : App R_Label w lo hi T v L xs Sf) {n : Nat} (hn : L.length = n + 1) :
    ∃ (gb cap : Nat) (l s : Int), v = .slice (some ⟨gb, 0, none⟩) (n + 1) cap ∧ lo ≤ gb ∧ gb < hi ∧ w.cell? ⟨gb, n * 2, none⟩ = some (.int .i64 l) ∧ w.cell? ⟨gb, n * 2 + 1, none⟩ = some (.int .i64 s) := by
  obtain ⟨a, cap, rfl, hd⟩ := h.done
  obtain ⟨gb, Sg, rfl, hr, _, _, _, hel⟩ := hd.2.2 (by omega)
  obtain ⟨⟨l, s⟩, hx⟩ : ∃ x, L[n]? = some x := ⟨_, List.getElem?_eq_getElem (by omega)⟩
  obtain ⟨us, hu, ho⟩ := hel n _ hx
  obtain rfl := ow0_Label ho
  have hd0 : w.cell? ⟨gb, n * 2, none⟩ = some (.int .i64 l) := hu 0 _ rfl
  have hd1 : w.cell? ⟨gb, n * 2 + 1, none⟩ = some (.int .i64 s) := hu 1 _ rfl
  exact ⟨gb, cap, l, s, by rw [hn], hr.1, hr.2, hd0, hd1⟩

theorem but_far {g : Nat} {a w w' : World} (h : But g a w) (k : Below a.heap.size w w') : But g a w' :=
  ⟨k.os.trans h.os, k.tape.trans h.tape, k.output.trans h.output, Nat.le_trans h.size k.size, fun i hi hg => (k.block i hi).trans (h.block i hi hg)⟩
/-- what holds in the region: the last label's cells, the source, all else as it was -/
abbrev Sx (gb n g : Nat) (b : Option Addr) (len cap : Nat) (la sa : Int) (wr V : World) : Prop :=
  V.cell? ⟨gb, n * 2, none⟩ = some (.int .i64 la) ∧ V.cell? ⟨gb, n * 2 + 1, none⟩ = some (.int .i64 sa) ∧ Src g b len cap V ∧ But g wr V
section
variable {gb n g : Nat} {b : Option Addr} {len cap : Nat} {la sa : Int} {wr V V' : World}
theorem sx_far (h : Sx gb n g b len cap la sa wr V) (hgb : gb < wr.heap.size) (hg : g < wr.heap.size) (hb : Below wr.heap.size V V') : Sx gb n g b len cap la sa wr V' :=
  ⟨(hb.cell (p := ⟨gb, n * 2, none⟩) hgb).trans h.1, (hb.cell (p := ⟨gb, n * 2 + 1, none⟩) hgb).trans h.2.1, h.2.2.1.mono (hb.mono hg), but_far h.2.2.2 hb⟩
theorem sx_alloc (h : Sx gb n g b len cap la sa wr V) (hgb : gb < wr.heap.size) (hg : g < wr.heap.size) (o : Obj) : Sx gb n g b len cap la sa wr (V.alloc o) :=
  sx_far h hgb hg ((Below.refl _ _).alloc h.2.2.2.size _)
theorem sx_call (h : Sx gb n g b len cap la sa wr V) (hgb : gb < wr.heap.size) (hg : g < wr.heap.size) (hb : Below V.heap.size V V') : Sx gb n g b len cap la sa wr V' := sx_far h hgb hg (hb.mono h.2.2.2.size)
theorem sx_but (h : Sx gb n g b len cap la sa wr V) (hgb : gb < wr.heap.size) (hne : gb ≠ g) (hs : Src g b len cap V') (hb : But g V V') : Sx gb n g b len cap la sa wr V' :=
  ⟨(hb.cell (p := ⟨gb, n * 2, none⟩) (Nat.lt_of_lt_of_le hgb h.2.2.2.size) hne).trans h.1, (hb.cell (p := ⟨gb, n * 2 + 1, none⟩) (Nat.lt_of_lt_of_le hgb h.2.2.2.size) hne).trans h.2.1, hs, h.2.2.2.trans hb⟩
theorem sx_set (h : Sx gb n g b len cap la sa wr V) (hgb : gb < wr.heap.size) (hg : g < wr.heap.size) {bx : Nat} (hbx : wr.heap.size ≤ bx) (o : Nat) (u : Value) : Sx gb n g b len cap la sa wr (V.setCell ⟨bx, o, none⟩ u) :=
  sx_far h hgb hg ((Below.refl _ _).setCell (p := ⟨bx, o, none⟩) hbx _)
theorem sx_new (h : Sx gb n g b len cap la sa wr V) (hgb : gb < wr.heap.size) (hg : g < wr.heap.size) : ∃ (U : World) (bx : Nat), U = V.alloc (.cells #[.int .i64 0, .int .i64 0] 23) ∧ bx = V.heap.size ∧ Sx gb n g b len cap la sa wr U ∧ Blk U bx 23 #[.int .i64 0, .int .i64 0] ∧ wr.heap.size ≤ bx :=
  ⟨_, _, rfl, rfl, sx_alloc h hgb hg _, Blk.new _ _ _, h.2.2.2.size⟩
theorem sx_store {bx : Nat} {l0 s0 : Int} (h : Sx gb n g b len cap la sa wr V) (hX : Blk V bx 23 #[.int .i64 l0, .int .i64 s0]) (hgb : gb < wr.heap.size) (hg : g < wr.heap.size) (hbx : wr.heap.size ≤ bx) (l s : Int) :
    ∃ Z : World, Z = (V.setCell ⟨bx, 0, none⟩ (.int .i64 l)).setCell ⟨bx, 1, none⟩ (.int .i64 s) ∧ Sx gb n g b len cap la sa wr Z ∧ Blk Z bx 23 #[.int .i64 l, .int .i64 s] :=
  ⟨_, rfl, sx_set (sx_set h hgb hg hbx 0 _) hgb hg hbx 1 _, ((hX.set 0 (.int .i64 l)).set 1 (.int .i64 s)).as rfl⟩
end
theorem joinV_form (l s m t : Int) : ∃ x y : Int, LabC.joinV l s m t = .agg #[.int .i64 x, .int .i64 y] := by
  unfold LabC.joinV
  split
  · exact ⟨_, _, rfl⟩
  · exact ⟨_, _, rfl⟩

theorem neq_label_at {a b a' b' : Int} {q : Bool} (h : ((a, b) == ((a', b') : D_Label)) = q) (w : World) : (binOp .neq 23 (.agg #[.int .i64 a, .int .i64 b]) (.agg #[.int .i64 a', .int .i64 b'])).run Tryd.prog w = .ok (.bool !q) w := by
  subst h
  go_simp
  repeat' split
  all_goals simp_all
theorem infoLabel : ∃ i, Tryd.prog.info? 23 = some i ∧ i.zero = some (.agg #[.int .i64 0, .int .i64 0]) ∧ i.size = 2 ∧ i.bytes = 16 := by
  have h : (Tryd.prog.info? 23).map (fun i => (i.zero, i.size, i.bytes)) = some (some (.agg #[.int .i64 0, .int .i64 0]), 2, 16) := by kernel_rfl
  cases hx : Tryd.prog.info? 23 with
  | none => rw [hx] at h; simp at h
  | some i => rw [hx] at h; simp at h; exact ⟨i, rfl, h.1, h.2.1, h.2.2⟩
/-- a label more -/
theorem app_label {w : World} {lo hi : Nat} {v : Value} {L : List D_Label} {xs : List Value} {Sf : Nat → Nat → Prop} (h : App R_Label w lo hi 23 v L xs Sf) (x0 x1 : Int) (hlo : lo ≤ hi) (hL : L.length + 1 ≤ 8796093022208) :
    ∃ a c w' xs' Sf', (Builtin.append_ #[60, 60] 60 #[v, .slice (some ⟨w.heap.size, 0, none⟩) 1 1]).run Tryd.prog (w.alloc (.cells #[.int .i64 x0, .int .i64 x1] 23)) = .ok (.slice a (L ++ [(x0, x1)]).length c) w' ∧ App R_Label w' lo w'.heap.size 23 (.slice a (L ++ [(x0, x1)]).length c) (L ++ [(x0, x1)]) xs' Sf' ∧ Below lo w w' := by
  obtain ⟨i, hi', hz, hs, hby⟩ := infoLabel
  exact app_el R_Label_ok h Tryd.underlying60 hi' hz hs hby rfl (by decide) (fun w' => mkow_Label) hlo (by unfold maxLen; omega) (by omega)

/-- a row of labels of a source, at most n of them, all memory of it at and above B -/
def DrawnR (B g : Nat) (b : Option Addr) (len cap n : Nat) (w : World) (e : Ending) (w' : World) : Prop :=
  ∃ (L : List D_Label) (v : Value) (xs : List Value) (hi : Nat) (Sf : Nat → Nat → Prop), e = .returned v ∧ 1 ≤ L.length ∧ L.length ≤ n ∧ App R_Label w' B hi 23 v L xs Sf ∧ Src g b len cap w' ∧ But g w w'

set_option maxRecDepth 100000 in
set_option maxHeartbeats 1600000 in
theorem chain_any (g : Nat) (b : Option Addr) (len cap : Nat) (w : World) (h : Src g b len cap w) :
    Calls Tryd.prog 74 #[.pointer (some ⟨g, 0, none⟩)] w (DrawnR w.heap.size g b len cap 3 w) := by
  have HS := Lib.hid h
  have hgw := h.lt
  clear h
  go_enter Tryd.func74, Tryd.ntmps74
  go_wp2_with fail
  refine (n_any g b len cap _ _ HS.out (by omega)).mono ?_
  rintro e w1 ⟨l, rfl, v0, v1, hs, hb⟩
  have HR1 : Hid (Src g b len cap w1 ∧ But g w w1) := Lib.hid ⟨hs, hb⟩
  have hs1 := hb.size
  clear hs hb v0 v1 HS
  obtain ⟨W1, hW1⟩ : ∃ x, x = w1.alloc (.cells #[.int .i64 0, .int .i64 0, .int .i64 1, .int .i64 2] 2) := ⟨_, rfl⟩
  have HB1 := Lib.hid (show Blk W1 w1.heap.size 2 #[.int .i64 0, .int .i64 0, .int .i64 1, .int .i64 2] from hW1 ▸ Blk.new _ _ _)
  have HR1' : Hid (Src g b len cap W1 ∧ But g w W1) := Lib.hid ⟨hW1 ▸ HR1.out.1.alloc _, hW1 ▸ HR1.out.2.alloc _⟩
  have hg1 := HR1.out.1.lt
  go_wp2_with fail
  rw [← hW1]
  refine (n_any g b len cap _ _ HR1'.out.1 (by omega)).mono ?_
  rintro e w2 ⟨q, rfl, v0, v1, hs, hb⟩
  have HB2 := Lib.hid (Blk.but HB1.out hb (by omega))
  have HR2 : Hid (Src g b len cap w2 ∧ But g w w2) := Lib.hid ⟨hs, HR1'.out.2.trans hb⟩
  obtain ⟨k, s, rfl, hk, hks⟩ : ∃ (k : Nat) (z : Int), q = (k : Int) ∧ k < 4 ∧ (#[.int .i64 0, .int .i64 0, .int .i64 1, .int .i64 2] : Array Value)[k]? = some (.int .i64 z) := by
    have : q = 0 ∨ q = 1 ∨ q = 2 ∨ q = 3 := by omega
    rcases this with rfl | rfl | rfl | rfl
    · exact ⟨0, _, rfl, by decide, rfl⟩
    · exact ⟨1, _, rfl, by decide, rfl⟩
    · exact ⟨2, _, rfl, by decide, rfl⟩
    · exact ⟨3, _, rfl, by decide, rfl⟩
  have hc := HB2.out.at_ k hks
  clear hs hb v0 v1 hks hW1 HB1 HR1 HR1'
  go_wp2_with fail
  have HA2 := Lib.hid ((app_one w2 l s 23))
  obtain ⟨W2, hW2⟩ : ∃ x, x = w2.alloc (.cells #[.int .i64 l, .int .i64 s] 23) := ⟨_, rfl⟩
  have HA2' := Lib.hid (show App R_Label W2 w2.heap.size (w2.heap.size + 1) _ _ _ _ _ from hW2 ▸ HA2.out)
  have HR2' : Hid (Src g b len cap W2 ∧ But g w W2) := Lib.hid ⟨hW2 ▸ HR2.out.1.alloc _, hW2 ▸ HR2.out.2.alloc _⟩
  rw [← hW2]
  have hs2 := HR2.out.2.size
  clear hW2 HA2 HB2 hc
  refine (n_any g b len cap _ _ HR2'.out.1 (by omega)).mono ?_
  rintro e w3 ⟨q, rfl, v0, v1, hs, hb⟩
  have hq : q < 3 := by omega
  obtain ⟨r, rfl⟩ : ∃ r : Nat, q = (r : Int) := ⟨q.toNat, by omega⟩
  have hg2 : g < w2.heap.size := HR2.out.1.lt
  have HA3 := Lib.hid (HA2'.out.mv R_Label_ok hb.size (fun k hk1 hk2 => hb.block k (by have := HA2'.out.le; omega) (by omega)))
  have HR3 : Hid (Src g b len cap w3 ∧ But g w w3) := Lib.hid ⟨hs, HR2'.out.2.trans hb⟩
  clear hs hb v0 v1 HR2' HR2 HA2'
  go_wp2_with fail
  go_loopw [3, 4] (fun v i wr => ∃ (L : List D_Label) (r : Nat) (xs : List Value) (hi : Nat) (Sf : Nat → Nat → Prop), i = .int .i64 r ∧ 1 ≤ L.length ∧ L.length + r ≤ 3 ∧ App R_Label wr w.heap.size hi 23 v L xs Sf ∧ Src g b len cap wr ∧ But g w wr) (fun _ i _ => (intOf i).toNat)
  case atStart =>
    exact ⟨[(l, s)], r, _, _, _, rfl, by simp, by simp; omega, app_lower HA3.out hs2, HR3.out⟩
  case round =>
    obtain ⟨L, r, xs, hi, Sf, rfl, hL, hLr, hA, hR⟩ := hrel
    have HA := Lib.hid hA
    have HR : Hid (Src g b len cap wr ∧ But g w wr) := Lib.hid hR
    clear hA hR HR3 HA3
    by_cases h0 : r = 0
    · subst h0
      go_wp2
      go_ret
      exact ⟨L, _, xs, hi, Sf, rfl, hL, by omega, HA.out, HR.out⟩
    · have hpos : (0 : Int) < r := by omega
      obtain ⟨n, hn⟩ : ∃ n, L.length = n + 1 := ⟨L.length - 1, by omega⟩
      obtain ⟨gb, cp, la, sa, rfl, hgb, hgh, e0, e1⟩ := app_last HA.out hn
      have hle := HA.out.le
      have hg3 : g < wr.heap.size := HR.out.1.lt
      have hne : gb ≠ g := by omega
      have hgbw : gb < wr.heap.size := by omega
      have hidx : ((n : Int) + 1 - 1) = (n : Int) := by omega
      have hbd : (n : Int) < (n : Int) + 1 := by omega
      have hidw : IntKind.i64.wrap (n : Int) = (n : Int) := IntWalk.i64_in _ (by omega)
      have hrm : (r : Int) - 1 = ((r - 1 : Nat) : Int) := by omega
      have hrw : IntKind.i64.wrap ((r - 1 : Nat) : Int) = ((r - 1 : Nat) : Int) := IntWalk.i64_in _ (by omega)
      have SX0 := Lib.hid (show Sx gb n g b len cap la sa wr wr.drew from ⟨e0, e1, HR.out.1.mono (Below.refl _ _).drew, (But.refl _ _).drew⟩)
      go_wp2_with fail
      refine wp_region_held_drew (S := (fun V => Sx gb n g b len cap la sa wr V)) (by kernel_rfl) (SX0.out) (fun hHeld => ?_)
      (refine wpAnyH_take (i := 0) (v := ?hv1) rfl (by kernel_rfl) (by kernel_rfl) (by kernel_rfl) (fun _ _ _ h => h) (Or.inl ⟨by kernel_rfl, ?hy1⟩) hHeld ?hr1; case hy1 => (intro w hSw; (try dsimp only at hSw); go_simp; try with_reducible rfl))
      simp only [Act.put, List.getElem_toArray, List.getElem_cons_succ, List.getElem_cons_zero, List.setIfInBounds_toArray, List.set_cons_zero, List.set_cons_succ]
      (refine wpAnyH_take (i := 1) (v := ?hv2) rfl (by kernel_rfl) (by kernel_rfl) (by kernel_rfl) (fun _ _ _ h => h) (Or.inl ⟨by kernel_rfl, ?hy2⟩) hHeld ?hr2; case hy2 => (intro w hSw; (try dsimp only at hSw); go_simp; try with_reducible rfl))
      simp only [Act.put, List.getElem_toArray, List.getElem_cons_succ, List.getElem_cons_zero, List.setIfInBounds_toArray, List.set_cons_zero, List.set_cons_succ]
      (refine wpAnyH_take (i := 2) (v := ?hv3) rfl (by kernel_rfl) (by kernel_rfl) (by kernel_rfl) (fun _ _ _ h => h) (Or.inl ⟨by kernel_rfl, ?hy3⟩) hHeld ?hr3; case hy3 => (intro w hSw; (try dsimp only at hSw); go_simp; try with_reducible rfl))
      simp only [Act.put, List.getElem_toArray, List.getElem_cons_succ, List.getElem_cons_zero, List.setIfInBounds_toArray, List.set_cons_zero, List.set_cons_succ]
      (refine wpAnyH_take (i := 3) (v := ?hv4) rfl (by kernel_rfl) (by kernel_rfl) (by kernel_rfl) (fun _ _ _ h => h) (Or.inl ⟨by kernel_rfl, ?hy4⟩) hHeld ?hr4; case hy4 => (intro w hSw; (try dsimp only at hSw); go_simp; try with_reducible rfl))
      simp only [Act.put, List.getElem_toArray, List.getElem_cons_succ, List.getElem_cons_zero, List.setIfInBounds_toArray, List.set_cons_zero, List.set_cons_succ]
      (refine wpAnyH_take (i := 4) (v := ?hv5) rfl (by kernel_rfl) (by kernel_rfl) (by kernel_rfl) (fun _ _ _ h => h) (Or.inl ⟨by kernel_rfl, ?hy5⟩) hHeld ?hr5; case hy5 => (intro w hSw; (try dsimp only at hSw); go_simp; try with_reducible rfl))
      simp only [Act.put, List.getElem_toArray, List.getElem_cons_succ, List.getElem_cons_zero, List.setIfInBounds_toArray, List.set_cons_zero, List.set_cons_succ]
      (refine wpAnyH_take (i := 5) (v := ?hv6) rfl (by kernel_rfl) (by kernel_rfl) (by kernel_rfl) (fun _ _ _ h => h) (Or.inl ⟨by kernel_rfl, ?hy6⟩) hHeld ?hr6; case hy6 => (intro w hSw; (try dsimp only at hSw); have k0 := hSw.1; have k1 := hSw.2.1; clear hSw; go_simp; try with_reducible rfl))
      simp only [Act.put, List.getElem_toArray, List.getElem_cons_succ, List.getElem_cons_zero, List.setIfInBounds_toArray, List.set_cons_zero, List.set_cons_succ]
      (refine wpAnyH_take (i := 6) (v := ?hv7) rfl (by kernel_rfl) (by kernel_rfl) (by kernel_rfl) (fun _ _ _ h => h) (Or.inl ⟨by kernel_rfl, ?hy7⟩) hHeld ?hr7; case hy7 => (intro w hSw; (try dsimp only at hSw); go_simp; try with_reducible rfl))
      simp only [Act.put, List.getElem_toArray, List.getElem_cons_succ, List.getElem_cons_zero, List.setIfInBounds_toArray, List.set_cons_zero, List.set_cons_succ]
      refine wpAnyH_ready (rs := [7, 9]) (by kernel_rfl) (by simp) ?_
      refine AllReadyH.cons rfl (fun K hK => ?_) (AllReadyH.cons rfl (fun K hK => ?_) (AllReadyH.nil))
      · skip
        try go_simp
        go_at_call 53
        refine (label_any g b len cap _ hHeld.2.2.1).mono ?_
        intro e w4 h
        obtain ⟨lm, sm, rfl, hs, hb⟩ := drawnL_elim h
        try have HX := Lib.hid (Blk.but HX.out hb (by omega))
        have hsx := sx_but hHeld hgbw hne hs hb
        clear h hs hb
        refine hK.out _ _ hsx (fun hHeld => ?_)
        clear hsx
        clear hK K
        try simp only [Act.put, List.getElem_toArray, List.getElem_cons_succ, List.getElem_cons_zero, List.setIfInBounds_toArray, List.set_cons_zero, List.set_cons_succ]
        refine wpAnyH_ready (rs := [8, 9]) (by kernel_rfl) (by simp) ?_
        refine AllReadyH.cons rfl (fun K hK => ?_) (AllReadyH.cons rfl (fun K hK => ?_) (AllReadyH.nil))
        · skip
          go_simp
          go_at_call 32
          refine (LabC.join_spec la sa lm sm _).mono ?_
          rintro e w5 ⟨rfl, hb⟩
          obtain ⟨lx, sx, hjx⟩ := joinV_form la sa lm sm
          rw [hjx]
          try have HX := Lib.hid (HX.out.call hb)
          have hsx := sx_call hHeld hgbw hg3 hb
          clear hb
          refine hK.out _ _ hsx (fun hHeld => ?_)
          clear hsx
          clear hK K
          try simp only [Act.put, List.getElem_toArray, List.getElem_cons_succ, List.getElem_cons_zero, List.setIfInBounds_toArray, List.set_cons_zero, List.set_cons_succ]
          refine wpAnyH_ready (rs := [9]) (by kernel_rfl) (by simp) ?_
          refine AllReadyH.cons rfl (fun K hK => ?_) (AllReadyH.nil)
          obtain ⟨U, bx, hU, hbx, hsU, hXU, hX0⟩ := sx_new hHeld hgbw hg3
          go_simp
          first | rw [← hU, ← hbx] | rw [show (wr.alloc (.cells #[.int .i64 0, .int .i64 0] 23)).drew = U from hU.symm, show wr.heap.size = bx from hbx.symm]
          clear hU hbx
          have HX := Lib.hid hXU
          clear hXU
          refine hK.out _ _ hsU (fun hHeld => ?_)
          clear hsU
          clear hK K
          try simp only [Act.put, List.getElem_toArray, List.getElem_cons_succ, List.getElem_cons_zero, List.setIfInBounds_toArray, List.set_cons_zero, List.set_cons_succ]
          refine wpAnyH_ready (rs := [10]) (by kernel_rfl) (by simp) ?_
          refine AllReadyH.cons rfl (fun K hK => ?_) (AllReadyH.nil)
          obtain ⟨Z, hZ, hsZ, hXZ⟩ := sx_store hHeld HX.out hgbw hg3 hX0 lx sx
          have r0 := HX.out.at_ 0 rfl
          have r1 := HX.out.at_ 1 rfl
          have f0 := HX.out.soft 0
          have f1 := HX.out.soft 1
          go_simp
          rw [← hZ]
          have HX := Lib.hid hXZ
          clear hZ hXZ f0 f1 r0 r1
          refine hK.out _ _ hsZ (fun hHeld => ?_)
          clear hsZ
          clear hK K
          try simp only [Act.put, List.getElem_toArray, List.getElem_cons_succ, List.getElem_cons_zero, List.setIfInBounds_toArray, List.set_cons_zero, List.set_cons_succ]
          refine wpAnyH_done (by kernel_rfl) ?_ _
          have HV := Lib.hid hHeld
          have y0 := hHeld.1
          have y1 := hHeld.2.1
          have x0 := HX.out.at_ 0 rfl
          have x1 := HX.out.at_ 1 rfl
          clear hHeld
          cases hq7 : (((lx, sx) : D_Label) == (la, sa)) with
          | true =>
            have qn := neq_label_at hq7
            go_wp2_with fail
            go_quiet (fail)
            have HV2 := Lib.hid (sx_far HV.out hgbw hg3 (bdrewN (Below.refl _ _) nq))
            have HA2 := Lib.hid (HA.out.mv R_Label_ok HV2.out.2.2.2.size (fun k hk1 hk2 => HV2.out.2.2.2.block k (by omega) (by omega)))
            clear HV HA HX y0 y1 x0 x1 qn hq7 e0 e1
            go_wp2
            go_roundw
            case rel => exact ⟨L, r - 1, xs, hi, Sf, by go_num, hL, by omega, HA2.out, HV2.out.2.2.1, HR.out.2.trans HV2.out.2.2.2⟩
            case measure => simp [intOf]; omega
          | false =>
            have qn := neq_label_at hq7
            go_wp2_with fail
            go_quiet (fail)
            obtain ⟨Y, hY⟩ : ∃ Y, Y = World.drewN Z nq := ⟨_, rfl⟩
            have HV2 := Lib.hid (show Sx gb n g b len cap la sa wr Y from hY ▸ sx_far HV.out hgbw hg3 (bdrewN (Below.refl _ _) nq))
            have HX2 := Lib.hid (show Blk Y bx 23 #[.int .i64 lx, .int .i64 sx] from hY ▸ HX.out.call (bdrewN (Below.refl _ _) nq))
            rw [← hY]
            clear hY
            have HA2 := Lib.hid (HA.out.mv R_Label_ok HV2.out.2.2.2.size (fun k hk1 hk2 => HV2.out.2.2.2.block k (by omega) (by omega)))
            clear HV HA HX y0 y1 x0 x1 qn hq7 e0 e1
            have x0 := HX2.out.at_ 0 rfl
            have x1 := HX2.out.at_ 1 rfl
            obtain ⟨na, nc, w6, xs6, Sf6, hr, hA6, hb6⟩ := app_label HA2.out lx sx (by omega) (by omega)
            have HR6 := Lib.hid hr
            have HA6 := Lib.hid hA6
            have HB6 := Lib.hid hb6
            clear hr hA6 hb6 HA2
            go_wp2_with (at_builtin; refine RowC.wpList_app rfl (.tmp 38) (.tmp 40) 60 rfl rfl rfl HR6.out ?_)
            go_roundw
            case rel => exact ⟨L ++ [(lx, sx)], r - 1, xs6, w6.heap.size, Sf6, by go_num, by simp, by simp; omega, (by have h := HA6.out; rw [show (L ++ [(lx, sx)]).length = n + 1 + 1 by simp [hn]] at h; exact h), HV2.out.2.2.1.mono (HB6.out.mono hgw), but_far (HR.out.2.trans HV2.out.2.2.2) HB6.out⟩
            case measure => simp [intOf]; omega
        · skip
          obtain ⟨U, bx, hU, hbx, hsU, hXU, hX0⟩ := sx_new hHeld hgbw hg3
          go_simp
          first | rw [← hU, ← hbx] | rw [show (wr.alloc (.cells #[.int .i64 0, .int .i64 0] 23)).drew = U from hU.symm, show wr.heap.size = bx from hbx.symm]
          clear hU hbx
          have HX := Lib.hid hXU
          clear hXU
          refine hK.out _ _ hsU (fun hHeld => ?_)
          clear hsU
          clear hK K
          try simp only [Act.put, List.getElem_toArray, List.getElem_cons_succ, List.getElem_cons_zero, List.setIfInBounds_toArray, List.set_cons_zero, List.set_cons_succ]
          refine wpAnyH_ready (rs := [8]) (by kernel_rfl) (by simp) ?_
          refine AllReadyH.cons rfl (fun K hK => ?_) (AllReadyH.nil)
          go_simp
          go_at_call 32
          refine (LabC.join_spec la sa lm sm _).mono ?_
          rintro e w5 ⟨rfl, hb⟩
          obtain ⟨lx, sx, hjx⟩ := joinV_form la sa lm sm
          rw [hjx]
          try have HX := Lib.hid (HX.out.call hb)
          have hsx := sx_call hHeld hgbw hg3 hb
          clear hb
          refine hK.out _ _ hsx (fun hHeld => ?_)
          clear hsx
          clear hK K
          try simp only [Act.put, List.getElem_toArray, List.getElem_cons_succ, List.getElem_cons_zero, List.setIfInBounds_toArray, List.set_cons_zero, List.set_cons_succ]
          refine wpAnyH_ready (rs := [10]) (by kernel_rfl) (by simp) ?_
          refine AllReadyH.cons rfl (fun K hK => ?_) (AllReadyH.nil)
          obtain ⟨Z, hZ, hsZ, hXZ⟩ := sx_store hHeld HX.out hgbw hg3 hX0 lx sx
          have r0 := HX.out.at_ 0 rfl
          have r1 := HX.out.at_ 1 rfl
          have f0 := HX.out.soft 0
          have f1 := HX.out.soft 1
          go_simp
          rw [← hZ]
          have HX := Lib.hid hXZ
          clear hZ hXZ f0 f1 r0 r1
          refine hK.out _ _ hsZ (fun hHeld => ?_)
          clear hsZ
          clear hK K
          try simp only [Act.put, List.getElem_toArray, List.getElem_cons_succ, List.getElem_cons_zero, List.setIfInBounds_toArray, List.set_cons_zero, List.set_cons_succ]
          refine wpAnyH_done (by kernel_rfl) ?_ _
          have HV := Lib.hid hHeld
          have y0 := hHeld.1
          have y1 := hHeld.2.1
          have x0 := HX.out.at_ 0 rfl
          have x1 := HX.out.at_ 1 rfl
          clear hHeld
          cases hq7 : (((lx, sx) : D_Label) == (la, sa)) with
          | true =>
            have qn := neq_label_at hq7
            go_wp2_with fail
            go_quiet (fail)
            have HV2 := Lib.hid (sx_far HV.out hgbw hg3 (bdrewN (Below.refl _ _) nq))
            have HA2 := Lib.hid (HA.out.mv R_Label_ok HV2.out.2.2.2.size (fun k hk1 hk2 => HV2.out.2.2.2.block k (by omega) (by omega)))
            clear HV HA HX y0 y1 x0 x1 qn hq7 e0 e1
            go_wp2
            go_roundw
            case rel => exact ⟨L, r - 1, xs, hi, Sf, by go_num, hL, by omega, HA2.out, HV2.out.2.2.1, HR.out.2.trans HV2.out.2.2.2⟩
            case measure => simp [intOf]; omega
          | false =>
            have qn := neq_label_at hq7
            go_wp2_with fail
            go_quiet (fail)
            obtain ⟨Y, hY⟩ : ∃ Y, Y = World.drewN Z nq := ⟨_, rfl⟩
            have HV2 := Lib.hid (show Sx gb n g b len cap la sa wr Y from hY ▸ sx_far HV.out hgbw hg3 (bdrewN (Below.refl _ _) nq))
            have HX2 := Lib.hid (show Blk Y bx 23 #[.int .i64 lx, .int .i64 sx] from hY ▸ HX.out.call (bdrewN (Below.refl _ _) nq))
            rw [← hY]
            clear hY
            have HA2 := Lib.hid (HA.out.mv R_Label_ok HV2.out.2.2.2.size (fun k hk1 hk2 => HV2.out.2.2.2.block k (by omega) (by omega)))
            clear HV HA HX y0 y1 x0 x1 qn hq7 e0 e1
            have x0 := HX2.out.at_ 0 rfl
            have x1 := HX2.out.at_ 1 rfl
            obtain ⟨na, nc, w6, xs6, Sf6, hr, hA6, hb6⟩ := app_label HA2.out lx sx (by omega) (by omega)
            have HR6 := Lib.hid hr
            have HA6 := Lib.hid hA6
            have HB6 := Lib.hid hb6
            clear hr hA6 hb6 HA2
            go_wp2_with (at_builtin; refine RowC.wpList_app rfl (.tmp 38) (.tmp 40) 60 rfl rfl rfl HR6.out ?_)
            go_roundw
            case rel => exact ⟨L ++ [(lx, sx)], r - 1, xs6, w6.heap.size, Sf6, by go_num, by simp, by simp; omega, (by have h := HA6.out; rw [show (L ++ [(lx, sx)]).length = n + 1 + 1 by simp [hn]] at h; exact h), HV2.out.2.2.1.mono (HB6.out.mono hgw), but_far (HR.out.2.trans HV2.out.2.2.2) HB6.out⟩
            case measure => simp [intOf]; omega
      · skip
        obtain ⟨U, bx, hU, hbx, hsU, hXU, hX0⟩ := sx_new hHeld hgbw hg3
        go_simp
        first | rw [← hU, ← hbx] | rw [show (wr.alloc (.cells #[.int .i64 0, .int .i64 0] 23)).drew = U from hU.symm, show wr.heap.size = bx from hbx.symm]
        clear hU hbx
        have HX := Lib.hid hXU
        clear hXU
        refine hK.out _ _ hsU (fun hHeld => ?_)
        clear hsU
        clear hK K
        try simp only [Act.put, List.getElem_toArray, List.getElem_cons_succ, List.getElem_cons_zero, List.setIfInBounds_toArray, List.set_cons_zero, List.set_cons_succ]
        refine wpAnyH_ready (rs := [7]) (by kernel_rfl) (by simp) ?_
        refine AllReadyH.cons rfl (fun K hK => ?_) (AllReadyH.nil)
        try go_simp
        go_at_call 53
        refine (label_any g b len cap _ hHeld.2.2.1).mono ?_
        intro e w4 h
        obtain ⟨lm, sm, rfl, hs, hb⟩ := drawnL_elim h
        try have HX := Lib.hid (Blk.but HX.out hb (by omega))
        have hsx := sx_but hHeld hgbw hne hs hb
        clear h hs hb
        refine hK.out _ _ hsx (fun hHeld => ?_)
        clear hsx
        clear hK K
        try simp only [Act.put, List.getElem_toArray, List.getElem_cons_succ, List.getElem_cons_zero, List.setIfInBounds_toArray, List.set_cons_zero, List.set_cons_succ]
        refine wpAnyH_ready (rs := [8]) (by kernel_rfl) (by simp) ?_
        refine AllReadyH.cons rfl (fun K hK => ?_) (AllReadyH.nil)
        go_simp
        go_at_call 32
        refine (LabC.join_spec la sa lm sm _).mono ?_
        rintro e w5 ⟨rfl, hb⟩
        obtain ⟨lx, sx, hjx⟩ := joinV_form la sa lm sm
        rw [hjx]
        try have HX := Lib.hid (HX.out.call hb)
        have hsx := sx_call hHeld hgbw hg3 hb
        clear hb
        refine hK.out _ _ hsx (fun hHeld => ?_)
        clear hsx
        clear hK K
        try simp only [Act.put, List.getElem_toArray, List.getElem_cons_succ, List.getElem_cons_zero, List.setIfInBounds_toArray, List.set_cons_zero, List.set_cons_succ]
        refine wpAnyH_ready (rs := [10]) (by kernel_rfl) (by simp) ?_
        refine AllReadyH.cons rfl (fun K hK => ?_) (AllReadyH.nil)
        obtain ⟨Z, hZ, hsZ, hXZ⟩ := sx_store hHeld HX.out hgbw hg3 hX0 lx sx
        have r0 := HX.out.at_ 0 rfl
        have r1 := HX.out.at_ 1 rfl
        have f0 := HX.out.soft 0
        have f1 := HX.out.soft 1
        go_simp
        rw [← hZ]
        have HX := Lib.hid hXZ
        clear hZ hXZ f0 f1 r0 r1
        refine hK.out _ _ hsZ (fun hHeld => ?_)
        clear hsZ
        clear hK K
        try simp only [Act.put, List.getElem_toArray, List.getElem_cons_succ, List.getElem_cons_zero, List.setIfInBounds_toArray, List.set_cons_zero, List.set_cons_succ]
        refine wpAnyH_done (by kernel_rfl) ?_ _
        have HV := Lib.hid hHeld
        have y0 := hHeld.1
        have y1 := hHeld.2.1
        have x0 := HX.out.at_ 0 rfl
        have x1 := HX.out.at_ 1 rfl
        clear hHeld
        cases hq7 : (((lx, sx) : D_Label) == (la, sa)) with
        | true =>
          have qn := neq_label_at hq7
          go_wp2_with fail
          go_quiet (fail)
          have HV2 := Lib.hid (sx_far HV.out hgbw hg3 (bdrewN (Below.refl _ _) nq))
          have HA2 := Lib.hid (HA.out.mv R_Label_ok HV2.out.2.2.2.size (fun k hk1 hk2 => HV2.out.2.2.2.block k (by omega) (by omega)))
          clear HV HA HX y0 y1 x0 x1 qn hq7 e0 e1
          go_wp2
          go_roundw
          case rel => exact ⟨L, r - 1, xs, hi, Sf, by go_num, hL, by omega, HA2.out, HV2.out.2.2.1, HR.out.2.trans HV2.out.2.2.2⟩
          case measure => simp [intOf]; omega
        | false =>
          have qn := neq_label_at hq7
          go_wp2_with fail
          go_quiet (fail)
          obtain ⟨Y, hY⟩ : ∃ Y, Y = World.drewN Z nq := ⟨_, rfl⟩
          have HV2 := Lib.hid (show Sx gb n g b len cap la sa wr Y from hY ▸ sx_far HV.out hgbw hg3 (bdrewN (Below.refl _ _) nq))
          have HX2 := Lib.hid (show Blk Y bx 23 #[.int .i64 lx, .int .i64 sx] from hY ▸ HX.out.call (bdrewN (Below.refl _ _) nq))
          rw [← hY]
          clear hY
          have HA2 := Lib.hid (HA.out.mv R_Label_ok HV2.out.2.2.2.size (fun k hk1 hk2 => HV2.out.2.2.2.block k (by omega) (by omega)))
          clear HV HA HX y0 y1 x0 x1 qn hq7 e0 e1
          have x0 := HX2.out.at_ 0 rfl
          have x1 := HX2.out.at_ 1 rfl
          obtain ⟨na, nc, w6, xs6, Sf6, hr, hA6, hb6⟩ := app_label HA2.out lx sx (by omega) (by omega)
          have HR6 := Lib.hid hr
          have HA6 := Lib.hid hA6
          have HB6 := Lib.hid hb6
          clear hr hA6 hb6 HA2
          go_wp2_with (at_builtin; refine RowC.wpList_app rfl (.tmp 38) (.tmp 40) 60 rfl rfl rfl HR6.out ?_)
          go_roundw
          case rel => exact ⟨L ++ [(lx, sx)], r - 1, xs6, w6.heap.size, Sf6, by go_num, by simp, by simp; omega, (by have h := HA6.out; rw [show (L ++ [(lx, sx)]).length = n + 1 + 1 by simp [hn]] at h; exact h), HV2.out.2.2.1.mono (HB6.out.mono hgw), but_far (HR.out.2.trans HV2.out.2.2.2) HB6.out⟩
          case measure => simp [intOf]; omega

end Go.Proofs.YtdimpopkkjpddaaDoor.DrawC
