/- LetDown: what is needed. -/
import Derived.Test.YtknifggpodhhdaaDoorDkQ
import Derived.Test.YtknifggpodhhdaaDoorFlatC
namespace Go.Proofs.YtknifggpodhhdaaDoor.RepC
open SenC IsC Go.RowKit RowC ValC SpanC KeptC
set_option linter.unusedVariables false
set_option linter.unusedSimpArgs false

theorem letG_no {d : D_Desk} {f t : D_Label} {w : Int} (h : ¬ (boxB d = true ∧ isB w 0 1000000 = true)) : letG d f t w = (zeroD, 1) := by unfold letG; exact if_neg h
theorem letG_label {d : D_Desk} {f t : D_Label} {w : Int} (h : boxB d = true ∧ isB w 0 1000000 = true) (h2 : ¬ HasCh d.1 f t) : letG d f t w = (zeroD, 11) := by unfold letG; rw [if_pos h]; exact if_neg h2
theorem letG_range {d : D_Desk} {f t : D_Label} {w : Int} (h : boxB d = true ∧ isB w 0 1000000 = true) (h2 : HasCh d.1 f t) (h3 : d.2.2.2.1 = 2) : letG d f t w = (zeroD, 8) := by unfold letG; rw [if_pos h, if_pos h2]; exact if_pos h3
theorem letG_full {d : D_Desk} {f t : D_Label} {w : Int} (h : boxB d = true ∧ isB w 0 1000000 = true) (h2 : HasCh d.1 f t) (h3 : ¬ d.2.2.2.1 = 2) (h4 : d.2.1.length = 6 ∨ d.2.2.1.length = 20) : letG d f t w = (zeroD, 9) := by unfold letG; rw [if_pos h, if_pos h2, if_neg h3]; exact if_pos h4
theorem letG_ok {P B A : List D_Letter} {u n : Int} {f t : D_Label} {w : Int} (h : boxB (P, B, A, u, n) = true ∧ isB w 0 1000000 = true) (h2 : HasCh P f t) (h3 : ¬ u = 2) (h4 : ¬ B.length = 6) (h5 : ¬ A.length = 20) : letG (P, B, A, u, n) f t w = ((P, B ++ [(f, t, n, w)], A ++ [(f, t, n, w)], u + 1, n), 0) := by unfold letG; rw [if_pos h, if_pos h2, if_neg h3]; exact if_neg (fun h => by rcases h with h | h; exact h4 h; exact h5 h)
theorem bx4 (W : World) (c0 c1 c2 c3 : Array Value) (T0 T1 T2 T3 : TypeId) : Below W.heap.size W ((((W.alloc (.cells c0 T0)).alloc (.cells c1 T1)).alloc (.cells c2 T2)).alloc (.cells c3 T3)) ∧ Blk ((((W.alloc (.cells c0 T0)).alloc (.cells c1 T1)).alloc (.cells c2 T2)).alloc (.cells c3 T3)) W.heap.size T0 c0 ∧ Blk ((((W.alloc (.cells c0 T0)).alloc (.cells c1 T1)).alloc (.cells c2 T2)).alloc (.cells c3 T3)) (W.heap.size + 1) T1 c1 ∧ Blk ((((W.alloc (.cells c0 T0)).alloc (.cells c1 T1)).alloc (.cells c2 T2)).alloc (.cells c3 T3)) (W.heap.size + 1 + 1) T2 c2 ∧ Blk ((((W.alloc (.cells c0 T0)).alloc (.cells c1 T1)).alloc (.cells c2 T2)).alloc (.cells c3 T3)) (W.heap.size + 1 + 1 + 1) T3 c3 := by
  have h := bx3 W c0 c1 c2 T0 T1 T2
  refine ⟨h.1.alloc h.1.size _, h.2.1.alloc _, h.2.2.1.alloc _, h.2.2.2.alloc _, ?_⟩
  have h := Blk.new (((W.alloc (.cells c0 T0)).alloc (.cells c1 T1)).alloc (.cells c2 T2)) T3 c3
  simpa only [World.size_alloc] using h
theorem But2.of {w w' : World} {g : Nat} (hb : Below w.heap.size w w') : But2 w w' g := ⟨hb.size, fun k hk _ => hb.block k hk, fun B _ hB => hb.mono hB⟩
theorem But2.trans {w w' w'' : World} {g : Nat} (h : But2 w w' g) (k : But2 w' w'' g) : But2 w w'' g := ⟨Nat.le_trans h.1 k.1, fun j hj hne => (k.2.1 j (Nat.lt_of_lt_of_le hj h.1) hne).trans (h.2.1 j hj hne), fun B hB hw => (h.2.2 B hB hw).trans (k.2.2 B hB (Nat.le_trans hw h.1))⟩
theorem But2.off {w w' : World} {g : Nat} (h : Off (fun k => k = g) w w') : But2 w w' g := ⟨h.size, fun k hk hne => h.block k hk hne, fun B hB hw => h.below hw (fun k hk => by rw [hk]; exact hB)⟩
theorem But2.cell {w w' : World} {g k i : Nat} {v : Value} (h : But2 w w' g) (hk : k < w.heap.size) (hne : k ≠ g) (hv : w.cell? ⟨k, i, none⟩ = some v) : w'.cell? ⟨k, i, none⟩ = some v := (World.cell?_of_block (a := ⟨k, i, none⟩) (h.2.1 k hk hne)).trans hv
/-- a desk and an error, or none -/
def TupR (a1 a2 a3 a4 : Addr) (r : D_DeskStep) (W : World) (e : Ending) (w' : World) : Prop := ∃ us err, e = .returned (.tuple #[.agg (List.toArray us), err]) ∧ R_Desk.ow w' (Rg W.heap.size w'.heap.size) r.1 us ∧ Below W.heap.size W w' ∧ ((r.2 = 0 ∧ err = .nilIface) ∨ (us = [.slice none 0 0, .slice none 0 0, .slice none 0 0, .int .i64 0, .int .i64 0] ∧ ((r = (zeroD, 1) ∧ err = .iface 166 (.pointer (some a1))) ∨ (r = (zeroD, 11) ∧ err = .iface 166 (.pointer (some a2))) ∨ (r = (zeroD, 8) ∧ err = .iface 166 (.pointer (some a3))) ∨ (r = (zeroD, 9) ∧ err = .iface 166 (.pointer (some a4))))))
theorem zero_ow {W : World} {S : Nat → Prop} : R_Desk.ow W S zeroD [.slice none 0 0, .slice none 0 0, .slice none 0 0, .int .i64 0, .int .i64 0] := mkow_Desk (T0 := fun _ => False) (T1 := fun _ => False) (T2 := fun _ => False) (fun k h => h.elim) (fun k h => h.elim) (fun k h => h.elim) (fun k h => h.elim) (fun k h => h.elim) (fun k h => h.elim) (nil_ow W _) (nil_ow W _) (nil_ow W _)
theorem let_fin {P B A : List D_Letter} {xa ya za : Option Addr} {xc yc zc nb na a1 b1 a2 b2 a3 b3 g W0 : Nat} {m n : Int} {w V : World} (h1 : OwSl R_Letter w (Rg a1 b1) P xa xc) (h2 : OwSl R_Letter w (Rg a2 b2) B ya yc) (h3 : OwSl R_Letter w (Rg a3 b3) A za zc) (h12 : b1 ≤ a2) (h23 : b2 ≤ a3) (e1 : a1 ≤ b1) (e2 : a2 ≤ b2) (e3 : b3 ≤ w.heap.size) (hoff : Off (fun k => k = g) w V) (hg : g < a1) (hW : W0 ≤ a1) (e4 : b2 ≤ w.heap.size) (e5 : b1 ≤ w.heap.size) (hB : B.length = nb) (hA : A.length = na) :
    R_Desk.ow V (Rg W0 V.heap.size) (P, B, A, m, n) [.slice xa P.length xc, .slice ya nb yc, .slice za na zc, .int .i64 m, .int .i64 n] := by
  subst hB hA
  have hs := hoff.size
  refine mkow_Desk (T0 := Rg a1 b1) (T1 := Rg a2 b2) (T2 := Rg a3 b3) (fun k hk => ?_) (fun k hk => ?_) (fun k hk => ?_) (fun k h h' => ?_) (fun k h h' => ?_) (fun k h h' => ?_) (OwSl.keep R_Letter_ok h1 fun k hk => hoff.block k ?_ fun e => ?_) (OwSl.keep R_Letter_ok h2 fun k hk => hoff.block k ?_ fun e => ?_) (OwSl.keep R_Letter_ok h3 fun k hk => hoff.block k ?_ fun e => ?_) <;> (try subst e) <;> (unfold Rg at *; omega)
end Go.Proofs.YtknifggpodhhdaaDoor.RepC
