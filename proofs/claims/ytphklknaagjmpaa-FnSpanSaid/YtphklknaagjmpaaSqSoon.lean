/- spansSoon: an iterator: a contract. -/
import Derived.RangeFuncNested
import Derived.RangeFuncBound
import Derived.RangeFuncCalls
import Derived.RangeFuncLeaves
import Derived.Shelf.Abstract
import Derived.Shelf.RegionOpen
import Derived.WalkKit
import Derived.OwnWalkIn
import Derived.TacticsInMore
import Derived.LoopNIn
import Derived.LoopIn
import Derived.Test.YtphklknaagjmpaaSqFirst
namespace Go.Proofs.Ytphklknaagjmpaa.SpanC
open Go.RowKit Go.Shelf KeptC RowC ValC
attribute [local go_sem] Oper.semAt_some
set_option linter.unusedSimpArgs false
set_option linter.unusedVariables false

def encT (now len : Int) (x : Nat) : Array Value := #[.agg #[.int .i64 (now + x), .int .i64 (now + x + len)]]

set_option maxRecDepth 100000 in
set_option maxHeartbeats 1000000 in
theorem soon1_in (n : Nat) (hn : 1 ≤ n) (l B1 B2 n₀ : Nat) (now len : Int) (hb1 : B1 < n₀) (hb2 : B2 < n₀) (hn0 : 0 ≤ now) (hn1 : now ≤ 999900) (hl0 : 1 ≤ len) (hl1 : len ≤ 40) (J Jx : List Nat → World → Prop)
    (hY : ∀ pre x W, J pre W → pre.length < 41 → YieldAt Fence.wide (n - 1) Try.prog l (encT now len x) W fun e W' =>
      (e = .returned (.bool true) ∧ J (pre ++ [x]) W' ∧ Below n₀ W W') ∨ (e = .returned (.bool false) ∧ Jx (pre ++ [x]) W'))
    (W : World) (hc1 : W.cell? ⟨B1, 0, none⟩ = some (.int .i64 now)) (hc2 : W.cell? ⟨B2, 0, none⟩ = some (.int .i64 len)) (h0 : J [] W) :
    CallsIn Fence.wide n Try.prog 46 #[.func (.yield l) #[] #[], .pointer (some ⟨B1, 0, none⟩), .pointer (some ⟨B2, 0, none⟩)] W fun e W' => (∃ v, e = .returned v) ∧
      ((∃ ys, ys = List.range 41 ∧ J ys W') ∨ (∃ pre, (∃ k, k ≤ 41 ∧ pre = List.range k) ∧ Jx pre W')) := by
  refine callsIn_of_wp Try.func46 rfl trivial ?_ rfl
  simp only [Try.ntmps46, List.size_toArray, List.length_cons, List.length_nil, Nat.reduceAdd, Nat.reduceSub, Array.replicate_succ, Array.replicate_zero, List.push_toArray, List.append_toArray, List.nil_append, List.cons_append]
  gi_wp2
  gi_loopw [4] (fun i wr => ∃ k : Nat, k ≤ 41 ∧ i = .int .i64 (now + k) ∧ J (List.range k) wr ∧ Below n₀ W wr)
    (fun i _ => (now + 41 - intOf i).toNat)
  case atStart => exact ⟨0, by omega, by simp, h0, Below.refl _ _⟩
  case round =>
    obtain ⟨k, hk, rfl, hJs, hnx⟩ := hrel
    have hd1 : wr.cell? ⟨B1, 0, none⟩ = some (.int .i64 now) := (hnx.cell (p := ⟨B1, 0, none⟩) hb1).trans hc1
    have hd2 : wr.cell? ⟨B2, 0, none⟩ = some (.int .i64 len) := (hnx.cell (p := ⟨B2, 0, none⟩) hb2).trans hc2
    by_cases hlt : k ≤ 40
    · have hdk : decide (now + (k : Int) ≤ now + 40) = true := decide_eq_true (by omega)
      obtain ⟨fn, tmps, assign, body, hy, hR⟩ := hY _ k wr hJs (by rw [List.length_range]; omega)
      unfold encT at hy
      have HNX := Lib.hid hnx
      clear hnx
      gi_wp2
      refine hR.mono ?_
      rintro e W3 (⟨rfl, hJ3, hk3⟩ | ⟨rfl, hJx3⟩)
      · gi_wp2
        go_roundw
        case rel => exact ⟨k + 1, by omega, by go_num, by rw [List.range_succ]; exact hJ3, HNX.out.trans hk3⟩
        case measure => simp [intOf]; omega
      · gi_wp2
        refine bodyPost_ret (results_none rfl _ _ _) rfl ?_
        exact ⟨⟨_, rfl⟩, .inr ⟨_, ⟨k + 1, by omega, by rw [List.range_succ]⟩, hJx3⟩⟩
    · have hdk : decide (now + (k : Int) ≤ now + 40) = false := decide_eq_false (by omega)
      obtain rfl : k = 41 := by omega
      gi_wp2
      go_end0
      exact ⟨⟨_, rfl⟩, .inl ⟨_, rfl, hJs⟩⟩

theorem soon_stops (n : Nat) (hn : 1 ≤ n) (B1 B2 n₀ : Nat) (now len : Int) (hn0 : 0 ≤ now) (hn1 : now ≤ 999900) (hl0 : 1 ≤ len) (hl1 : len ≤ 40) (w : World) (hb1 : B1 < n₀) (hb2 : B2 < n₀) (hn₀ : n₀ ≤ w.heap.size)
    (hc1 : w.cell? ⟨B1, 0, none⟩ = some (.int .i64 now)) (hc2 : w.cell? ⟨B2, 0, none⟩ = some (.int .i64 len)) :
    SeqStopsK Fence.wide n Try.prog 46 #[.pointer (some ⟨B1, 0, none⟩), .pointer (some ⟨B2, 0, none⟩)] (encT now len) (Below n₀) (fun ys => ys = List.range 41) (fun pre => ∃ k, k ≤ 41 ∧ pre = List.range k) 41 w := fun l J Jx W hW _ _ hY h0 =>
  soon1_in n hn l B1 B2 n₀ now len hb1 hb2 hn0 hn1 hl0 hl1 J Jx hY W ((hW.cell (p := ⟨B1, 0, none⟩) (by show B1 < _; omega)).trans hc1) ((hW.cell (p := ⟨B2, 0, none⟩) (by show B2 < _; omega)).trans hc2) h0

theorem soon_impl (now len : Int) (w : World) :
    Calls Try.prog 30 #[.int .i64 now, .int .i64 len] w fun e w' => e = .returned (.func (.func 46) #[] #[.pointer (some ⟨w.heap.size, 0, none⟩), .pointer (some ⟨w.heap.size + 1, 0, none⟩)]) ∧ (w.alloc (.cells #[.int .i64 now] 2)).alloc (.cells #[.int .i64 len] 2) = w' := by
  go_enter Try.func30, Try.ntmps30
  go_wp2
  go_ret
  exact ⟨rfl, rfl⟩
end Go.Proofs.Ytphklknaagjmpaa.SpanC
