/- NodeSet in the program: a contract. -/
import Derived.Test.YtfciojkibklkfaaTk
import Derived.Test.YtfciojkibklkfaaTk
import Derived.Test.YtfciojkibklkfaaNdZ
import Derived.Test.YtfciojkibklkfaaTk
import Derived.Test.YtfciojkibklkfaaNdG
namespace Go.Proofs.Ytfciojkibklkfaa.RepC
open Go.RowKit RowC ValC SpanC KeptC
set_option linter.unusedVariables false
set_option linter.unusedSimpArgs false

theorem setN_same {st : Int} {M : List D_Span} {s : Int} (h : s = st) : setN st (s, M) = (10, (s, M)) := if_pos h
theorem setN_new {st : Int} {M : List D_Span} {s : Int} (h : s ≠ st) : setN st (s, M) = (0, (st, M)) := if_neg h
set_option maxRecDepth 100000 in
set_option maxHeartbeats 1600000 in
theorem set_chg {bx : Nat} {st : Int} {W : World} (hbx : W.cell? ⟨bx, 0, none⟩ = some (.int .i64 st)) (hbl : bx < W.heap.size) : ChgF 65 #[.pointer (some ⟨bx, 0, none⟩)] (setN st) W := fun wq S M g k Sf x hR hS1 hS2 hB hx hok => by
  show Calls Try.prog 65 #[.pointer (some ⟨g, k * 2, none⟩), .pointer (some ⟨bx, 0, none⟩)] wq _
  obtain ⟨us, hu, hr⟩ := hR.el k x hx
  obtain ⟨s, B⟩ := x
  obtain ⟨ba, bc, T0, rfl, hT0, hO⟩ := ow_Node hr
  rw [size_NodeS] at hu
  have hgl : g < wq.heap.size := hS1 g hR.own
  have e0 : wq.cell? ⟨g, k * 2, none⟩ = some (.int .i64 s) := by simpa using hu 0 _ rfl
  have e1 : wq.cell? ⟨g, k * 2 + 1, none⟩ = some (.slice ba B.length bc) := hu 1 _ rfl
  have eb : wq.cell? ⟨bx, 0, none⟩ = some (.int .i64 st) := (hB.cell (p := ⟨bx, 0, none⟩) hbl).trans hbx
  have hbl2 : bx < wq.heap.size := Nat.lt_of_lt_of_le hbl hB.size
  have HR := Lib.hid hR
  have HS1 := Lib.hid hS1
  have HT0 := Lib.hid hT0
  have HO := Lib.hid hO
  have HX := Lib.hid hx
  have HE1 := Lib.hid e1
  have hgb : bx ≠ g := fun e => by have := hS2 g hR.own; omega
  clear hR hS1 hT0 hO hx hu hr hok hB hS2 hbx hbl e1
  by_cases hs : s = st
  · have hq : (s == st) = true := beq_iff_eq.2 hs
    have HV := Lib.hid (setN_same (M := B) hs)
    clear hs
    go_enter Try.func65, Try.ntmps65
    go_wp2_with fail
    refine wp_region_held_drew (S := (fun V => Below (wq).heap.size (wq) V)) (by kernel_rfl) ((Below.refl _ _).drew) (fun hHeld => ?_)
    refine tk 0 hHeld ?_
    refine tk 1 hHeld ?_
    refine tk 2 hHeld ?_
    refine tk 3 hHeld ?_ (hy := fun w hSw => by (try dsimp only at hSw); have k0 := (hSw.cell (p := ⟨g, k * 2, none⟩) hgl).trans e0; clear hSw; go_simp; try with_reducible rfl)
    refine tk 4 hHeld ?_ (hy := fun w hSw => by (try dsimp only at hSw); have k0 := (hSw.cell (p := ⟨bx, 0, none⟩) hbl2).trans eb; clear hSw; go_simp; try with_reducible rfl)
    refine tk 5 hHeld ?_
    refine rd0 ?_
    have HF := Lib.hid hHeld
    clear hHeld
    go_wp2
    go_ret
    exact ⟨by rw [HV.out]; rfl, (Off.refl _ wq).of_below HF.out, fun h => by rw [HV.out] at h; cases h⟩
  · have hq : (s == st) = false := beq_eq_false_iff_ne.2 hs
    have HV := Lib.hid (setN_new (M := B) hs)
    clear hs
    go_enter Try.func65, Try.ntmps65
    go_wp2_with fail
    refine wp_region_held_drew (S := (fun V => Below (wq).heap.size (wq) V)) (by kernel_rfl) ((Below.refl _ _).drew) (fun hHeld => ?_)
    refine tk 0 hHeld ?_
    refine tk 1 hHeld ?_
    refine tk 2 hHeld ?_
    refine tk 3 hHeld ?_ (hy := fun w hSw => by (try dsimp only at hSw); have k0 := (hSw.cell (p := ⟨g, k * 2, none⟩) hgl).trans e0; clear hSw; go_simp; try with_reducible rfl)
    refine tk 4 hHeld ?_ (hy := fun w hSw => by (try dsimp only at hSw); have k0 := (hSw.cell (p := ⟨bx, 0, none⟩) hbl2).trans eb; clear hSw; go_simp; try with_reducible rfl)
    refine tk 5 hHeld ?_
    refine rd0 ?_
    have HF := Lib.hid hHeld
    clear hHeld
    have s0 := HR.out.soft (k * 2)
    go_wp2
    go_ret
    have hset : ∀ q, q ≠ g → (wq.drew.setCell ⟨g, k * 2, none⟩ (.int .i64 st)).heap[q]? = wq.heap[q]? := fun q hq => Below.heap_setCell wq.drew ⟨g, k * 2, none⟩ _ q hq
    have hU : Upd wq (wq.drew.setCell ⟨g, k * 2, none⟩ (.int .i64 st)) g (k * 2) ((k + 1) * 2) (Sf k) := (Upd.below (T := Sf k) (Below.refl _ wq).drew hgl).trans (Upd.set (lo := k * 2) (hi := (k + 1) * 2) _ _ ⟨by omega, by omega⟩ _)
    have hrow := HR.out.set R_Node_ok HS1.out (x := (st, B)) (us := [.int .i64 st, .slice ba B.length bc]) (by rw [size_NodeS]; exact hU) (fun j d hd => by
      rw [size_NodeS]
      match j, hd with
      | 0, hd => simp at hd; subst hd; exact World.cell?_setCell_same _ _ _ e0
      | 1, hd => simp at hd; subst hd; rw [World.cell?_setCell_other _ _ _ _ (fun e => by injection e with _ e2; omega)]; exact HE1.out
      | j + 2, hd => simp at hd) (mkow_Node HT0.out (HO.out.keep R_Span_ok fun q hq => hset q (HR.out.sub k q (HT0.out q hq)).2))
    refine ⟨by rw [HV.out]; rfl, ((Off.refl _ wq).of_below (Below.refl _ wq).drew).setCell (p := ⟨g, k * 2, none⟩) HR.out.own _, fun _ => ⟨S, Sf, by rw [HV.out]; exact hrow, fun q hq => ⟨.inl hq, by have := HS1.out q hq; simpa using this⟩⟩⟩
set_option maxRecDepth 100000 in
set_option maxHeartbeats 1600000 in
theorem set_impl {L : List D_Node} {n st : Int} {a : Option Addr} {cap : Nat} {W : World} (h : RdSl R_Node W W.heap.size L a cap) :
    Calls Try.prog 16 #[.slice a L.length cap, .int .i64 n, .int .i64 st] W (NewV R_NodesOut (chgV L n (isB st 1 3) (setN st)) W) := by
  obtain ⟨w0, hw0⟩ : ∃ w, w = W.alloc (.cells #[.int .i64 st] 2) := ⟨_, rfl⟩
  have hb0 : Below W.heap.size W w0 := by rw [hw0]; exact (Below.refl _ _).alloc (Nat.le_refl _) _
  have hs0 : w0.heap.size = W.heap.size + 1 := by rw [hw0]; simp
  have x0 : Blk w0 W.heap.size 2 #[.int .i64 st] := by rw [hw0]; exact Blk.new _ _ _
  obtain ⟨w1, hw1⟩ : ∃ w, w = w0.alloc (.cells #[.slice none 0 0, .int .i64 0] 29) := ⟨_, rfl⟩
  have hb1 : Below w0.heap.size w0 w1 := by rw [hw1]; exact (Below.refl _ _).alloc (Nat.le_refl _) _
  have hs1 : w1.heap.size = W.heap.size + 2 := by rw [hw1]; simp [hs0]
  have XR := Lib.hid (show Blk w1 (W.heap.size + 1) 29 #[.slice none 0 0, .int .i64 0] from by rw [← hs0, hw1]; exact Blk.new _ _ _)
  have X1 := Lib.hid (x0.call hb1)
  have HB1 := Lib.hid (hb0.trans (hb1.mono hb0.size))
  have HSW := Lib.hid hs1
  have H := Lib.hid (mv_rd R_Node_ok h HB1.out)
  have HCH := Lib.hid (set_chg (X1.out.at_ 0 rfl) X1.out.lt)
  have hst := fun W => state_impl st W
  have hmf : ∀ (fn : Fn) (first cap : Array Value) (w : World), (Instr.makeFunc fn first cap).run Try.prog w = .ok (.func fn first cap) w := fun _ _ _ _ => rfl
  have eg : ∀ args w, (callFunc 65 args).run Try.prog w = .ok (.enter 65 args) w := enters_of Try.func65 (by kernel_rfl) rfl
  have HEG := Lib.hid eg
  clear eg h hb0 hb1 x0 hs1
  have p0 := X1.out.at_ 0 rfl
  rw [hw1, hw0] at p0
  go_enter Try.func16, Try.ntmps16
  go_wp2_with (first | (go_at_call 64; refine (hst _).mono ?_; rintro e w' ⟨rfl, rfl⟩) | fail)
  rw [← hw0, ← hw1]
  clear p0 hw1 hw0 hs0
  refine (change_impl HEG.out H.out HCH.out).mono ?_
  intro e w5 h
  obtain ⟨⟨R, cd⟩, hd⟩ : ∃ d, chgV L n (isB st 1 3) (setN st) = d := ⟨_, rfl⟩
  rw [hd] at h
  have HDD := Lib.hid hd
  obtain ⟨us, rfl, hu, hb⟩ := newV_elim h
  obtain ⟨a0, c0, rfl, hu⟩ := owc_NodesOut hu
  have XR := Lib.hid (XR.out.call hb)
  have HB5 := Lib.hid (HB1.out.trans (hb.mono HB1.out.size))
  have HU := Lib.hid hu
  have q0 := XR.out.at_ 0 rfl
  have q1 := XR.out.at_ 1 rfl
  have f0 := XR.out.soft 0
  have f1 := XR.out.soft 1
  have hzr := XR.out.lt
  have hz1 := hb.size
  clear h hu hb hd
  go_wp2
  refine bodyPost_ret (v := .agg #[.slice a0 R.length c0, .int .i64 cd]) (by simp [results, Try.results16, go_sem, *]) rfl ⟨[.slice a0 R.length c0, .int .i64 cd], rfl, ?_, (HB5.out.setCell (p := ⟨W.heap.size + 1, 0, none⟩) (show W.heap.size ≤ W.heap.size + 1 by omega) _).setCell (p := ⟨W.heap.size + 1, 1, none⟩) (show W.heap.size ≤ W.heap.size + 1 by omega) _⟩
  have hsw := HSW.out
  rw [HDD.out]
  refine R_NodesOut_ok.ow_more (R_NodesOut_ok.ow_keep HU.out fun q hq => ?_) fun q hq => ⟨?_, ?_⟩
  · have hq1 := hq.1
    rw [Below.heap_setCell _ ⟨W.heap.size + 1, 1, none⟩ _ q (show q ≠ W.heap.size + 1 by omega), Below.heap_setCell _ ⟨W.heap.size + 1, 0, none⟩ _ q (show q ≠ W.heap.size + 1 by omega)]
  · have hq1 := hq.1
    omega
  · have hq2 := hq.2
    simp; exact hq2
end Go.Proofs.Ytfciojkibklkfaa.RepC
