/- The accounts of a map, collected: maps.Keys, slices.Collect at accounts: contracts. -/
import Derived.RangeFuncNested
import Derived.RangeFuncBound
import Derived.RangeFuncCalls
import Derived.RangeFuncLeaves
import Derived.RangeFuncBox
import Derived.RangeFuncKeeps
import Derived.Shelf.Abstract
import Derived.Shelf.RegionOpen
import Derived.Sort.MapsRangeIn
import Derived.WalkKit
import Derived.OwnWalkIn
import Derived.TacticsInMore
import Derived.RegionIn
import Derived.LoopNIn
import Derived.LoopIn
import Derived.Maps.AppendAt
import Derived.Test.YtjhcphmehlihcaaUsU1
namespace Go.Proofs.Ytjhcphmehlihcaa.RepC
open Go.RowKit RowC ValC SpanC KeptC NameC SortC Go.ChangeShapes Go.Maps Go.Shelf Go.Sort
attribute [local go_sem] Oper.semAt_some
set_option linter.unusedVariables false
set_option linter.unusedSimpArgs false

/-- the accounts met so far -/
structure KeysM (D : DataW Value) (left : Lit → Bool) (xs : List AC) : Prop where
  nodup : xs.Nodup
  wf : ∀ a ∈ xs, WfA a
  mem : ∀ a, WfA a → (a ∈ xs ↔ Maps.has D (KA a) = true ∧ left (KA a) = false)
theorem KeysM.start (D : DataW Value) : KeysM D (Maps.has D) [] := ⟨List.nodup_nil, fun a h => by simp at h, fun a _ => by cases Maps.has D (KA a) <;> simp⟩
theorem KeysM.step {D : DataW Value} {left : Lit → Bool} {xs : List AC} (h : KeysM D left xs) {a : AC} (ha : WfA a) (hl : left (KA a) = true) (hh : Maps.has D (KA a) = true) : KeysM D (fun z => left z && !z.sameKey (KA a)) (xs ++ [a]) := by
  have hnew : a ∉ xs := fun hx => by have := ((h.mem a ha).1 hx).2; rw [hl] at this; cases this
  refine ⟨List.nodup_append.2 ⟨h.nodup, by simp, fun x hx y hy => by simp at hy; subst hy; exact fun e => hnew (e ▸ hx)⟩, fun x hx => ?_, fun x hx => ?_⟩
  · rcases List.mem_append.1 hx with h1 | h1
    · exact h.wf x h1
    · simp at h1; subst h1; exact ha
  · by_cases e : x = a
    · subst e
      simp only [List.mem_append, List.mem_singleton, or_true, true_iff]
      exact ⟨hh, by rw [WideAt.sameKey_self (KA_lit hx)]; simp⟩
    · have hne : KA x ≠ KA a := fun he => e (KA_inj hx ha he)
      have hs : (KA x).sameKey (KA a) = false := sameKey_ne hne
      simp only [List.mem_append, List.mem_singleton, e, or_false]
      rw [h.mem x hx, hs]
      simp
/-- all the accounts of a map, each once -/
def AllOf (F : AC → Option Int) (xs : List AC) : Prop := xs.Nodup ∧ (∀ a ∈ xs, WfA a) ∧ ∀ a, WfA a → (a ∈ xs ↔ (F a).isSome = true)
theorem KeysM.all {w : World} {b n : Nat} {D : DataW Value} {F : AC → Option Int} {left : Lit → Bool} {xs : List AC} (h : KeysM D left xs) (hM : MpU w b n D F) (hl : ∀ kl, left kl = false) : AllOf F xs :=
  ⟨h.nodup, h.wf, fun a ha => by rw [h.mem a ha, hl, (hM.atKey ha).2]; simp⟩
def boxA (a : AC) : Obj := .cells #[.int .i64 a.1.1, .int .i64 a.1.2, .string a.2] 65
set_option maxRecDepth 100000 in
set_option maxHeartbeats 1000000 in
theorem keys1A (n : Nat) (hn : 1 ≤ n) (l Bm b nn : Nat) (D : DataW Value) (F : AC → Option Int) (J Jx : List AC → World → Prop)
    (hY : ∀ pre x W, J pre W → pre.length < nn → YieldAt Fence.wide (n - 1) Try.prog l #[accV x] W fun e W' =>
      (e = .returned (.bool true) ∧ J (pre ++ [x]) W' ∧ KeepsWalks W W') ∨ (e = .returned (.bool false) ∧ Jx (pre ++ [x]) W'))
    (W : World) (hJ : AbidesFrom W.heap.size J) (hm : W.cell? ⟨Bm, 0, none⟩ = some (.map (some b))) (hM : MpU W b nn D F) (h0 : J [] W) :
    CallsIn Fence.wide n Try.prog 78 #[.func (.yield l) #[] #[], .pointer (some ⟨Bm, 0, none⟩)] W fun e W' => (∃ v, e = .returned v) ∧
      ((∃ xs, (AllOf F xs ∧ xs.length ≤ nn) ∧ J xs W') ∨ (∃ pre, True ∧ Jx pre W')) := by
  have hsz := hM.own.size_le
  have hown := hM.own
  refine callsIn_of_wp Try.func78 rfl trivial ?_ rfl
  simp only [Try.ntmps78, List.size_toArray, List.length_cons, List.length_nil, Nat.reduceAdd, Nat.reduceSub, Array.replicate_succ, Array.replicate_zero, List.push_toArray, List.append_toArray, List.nil_append, List.cons_append]
  gi_wp2_with (first
    | (gi_at_range; refine wpListIn_range_own _ rfl _ 62 rfl 65 2 a_keyed Try.underlying62 _ b nn _ rfl hown ?_; intro w0 hrg0 hg0 hs0)
    | gi_in)
  go_frame
  gi_loopw [3] (fun _ wr => ∃ (left : Lit → Bool) (cnt : Nat) (xs : List AC), wr.ranges Try.prog 65 elU b W.heap.size nn D left cnt ∧ xs.length + cnt ≤ nn ∧ KeysM D left xs ∧ J xs wr)
    (fun _ wr => wr.rangeLeft b W.heap.size)
  case atStart =>
    exact ⟨_, _, [], hrg0, by simpa using hsz, KeysM.start D, hJ [] W w0 none h0 hg0 (fun r e => by cases e)⟩
  case round =>
    obtain ⟨left, cnt, xs, hrg, hcs, hC, hJs⟩ := hrel
    gi_wp2_with (first
      | (gi_at_next; refine wpListIn_next_ranges _ rfl _ rfl 65 a_keyed elU (id : Value → Value) (id : Value → Value) (fun key kl hk => ⟨key, rfl⟩) (fun v _ _ => ⟨v, rfl⟩) b W.heap.size nn _ _ _ rfl hrg ?_ ?_)
      | gi_in)
    · intro hc0 hl0
      gi_wp2
      go_end0
      exact ⟨⟨_, rfl⟩, .inl ⟨xs, ⟨hC.all hM hl0, by omega⟩, hJs⟩⟩
    · intro x c kl yd yp w2 cnt2 hkey hlk hv hat hrg2 hlt hg2 hs2 hen
      have hkey : keyOf Try.prog 65 x = some kl := hkey
      have hen : (Instr.entry (.pointer (some ⟨W.heap.size, 0, none⟩))).run Try.prog w2 = .ok (.tuple #[x, c]) w2 := hen
      have hhas : Maps.has D kl = true := has_true_of_atKey hat
      obtain ⟨a, av, ha, hka, _⟩ := hM.keys kl hhas
      subst hka
      obtain rfl : x = .agg #[.int .i64 a.1.1, .int .i64 a.1.2, .string a.2] := a_keyed.inj hkey (keyA ha)
      have hJ2 : J xs w2 := hJ xs wr w2 (some W.heap.size) hJs hg2 (fun r e => by cases e; exact ⟨Nat.le_refl _, hrg.iter_walk⟩)
      have hJ3 : J xs (w2.alloc (boxA a)) := hJ xs w2 _ none hJ2 (World.grownBy_alloc w2 _ none) (fun r e => by cases e)
      obtain ⟨fn, tmps, assign, body, hy, hR⟩ := hY xs a _ hJ3 (by omega)
      have hC2 := hC.step ha hlk hhas
      have hrg3 : (w2.alloc (boxA a)).ranges Try.prog 65 elU b W.heap.size nn D (fun z => left z && !z.sameKey (KA a)) cnt2 := hrg2.alloc _
      clear hs2 hJ3 hJ2 hkey
      unfold accV at hy
      unfold boxA at hy hrg3 hR
      gi_wp2
      refine hR.mono ?_
      rintro e W3 (⟨rfl, hJ3, hk3⟩ | ⟨rfl, hJx3⟩)
      · gi_wp2
        have hrg4 := hrg3.of_walks hk3
        go_roundw
        case rel => exact ⟨_, cnt2, xs ++ [a], hrg4, by simp; omega, hC2, hJ3⟩
        case measure => rw [hrg4.left_eq, hrg.left_eq]; exact hlt
      · gi_wp2
        refine bodyPost_ret (results_none rfl _ _ _) rfl ?_
        exact ⟨⟨_, rfl⟩, .inr ⟨xs ++ [a], trivial, hJx3⟩⟩
theorem keysA_stops (n : Nat) (hn : 1 ≤ n) (Bm b nn : Nat) (D : DataW Value) (F : AC → Option Int) (w : World) (hBm : Bm < w.heap.size) (hm : w.cell? ⟨Bm, 0, none⟩ = some (.map (some b))) (hM : MpU w b nn D F) :
    SeqStopsK Fence.wide n Try.prog 78 #[.pointer (some ⟨Bm, 0, none⟩)] (fun a : AC => #[accV a]) KeepsWalks (fun xs => AllOf F xs ∧ xs.length ≤ nn) (fun _ => True) nn w := fun l J Jx W hW hJ _ hY h0 =>
  keys1A n hn l Bm b nn D F J Jx hY W hJ ((hW.cell (p := ⟨Bm, 0, none⟩) hBm).trans hm) (hM.call hW) h0
theorem keysA (b : Nat) (w : World) : Calls Try.prog 71 #[.map (some b)] w fun e w' => e = .returned (.func (.func 78) #[] #[.pointer (some ⟨w.heap.size, 0, none⟩)]) ∧ w' = w.alloc (.cells #[.map (some b)] 62) := by
  go_enter Try.func71, Try.ntmps71
  go_wp2
  go_ret
  exact ⟨rfl, rfl⟩
theorem infoA : (Try.prog.info? 65).map (fun i => (i.zero, i.size, i.bytes)) = some (some (.agg #[.int .i64 0, .int .i64 0, .string ⟨#[]⟩]), 3, 32) := by kernel_rfl
theorem cell_new3 (w : World) (u0 u1 u2 : Value) (t : TypeId) : ∀ j u, [u0, u1, u2][j]? = some u → (w.alloc (.cells #[u0, u1, u2] t)).cell? ((⟨w.heap.size, 0, none⟩ : Addr).add j) = some u := by
  intro j u h
  have hadd : (⟨w.heap.size, 0, none⟩ : Addr).add j = ⟨w.heap.size, j, none⟩ := by unfold Addr.add; split <;> simp_all
  rw [hadd]
  exact (Blk.new w t #[u0, u1, u2]).at_ j (by simpa using h)
/-- a slice of accounts of the call's own -/
def AccRow (m : Nat) (F : AC → Option Int) (w : World) (e : Ending) (w' : World) : Prop := ∃ v xs, e = .returned v ∧ AllOf F xs ∧ xs.length ≤ m ∧ w'.ownsRow w.heap.size 65 3 v xs.length (xs.flatMap encA) ∧ Below w.heap.size w w'
set_option maxRecDepth 100000 in
set_option maxHeartbeats 2000000 in
theorem appendA (Bm b nn : Nat) (hnn : nn ≤ 1000) (D : DataW Value) (F : AC → Option Int) (w : World) (hBm : Bm < w.heap.size) (hm : w.cell? ⟨Bm, 0, none⟩ = some (.map (some b))) (hM : MpU w b nn D F) :
    Calls Try.prog 80 #[.slice none 0 0, .func (.func 78) #[] #[.pointer (some ⟨Bm, 0, none⟩)]] w (AccRow nn F w) := by
  obtain ⟨i0, hi, hz0, hz1, hz2⟩ := info_parts infoA
  refine (callsIn_wide (n := 6)).1 ?_
  refine callsIn_of_wp_marks Try.func80 rfl trivial ?_ rfl
  simp only [Try.ntmps80, List.size_toArray, List.length_cons, List.length_nil, Nat.reduceAdd, Nat.reduceSub, Array.replicate_succ, Array.replicate_zero, List.push_toArray, List.append_toArray, List.nil_append, List.cons_append]
  have bO := Boxed.new w 73 (.slice none 0 0)
  have hB0 : Below w.heap.size w (w.alloc (.cells #[.slice none 0 0] 73)) := (Below.refl _ w).alloc (Nat.le_refl _) _
  gi_wp2_with fail
  refine wpIn_rangeFunc_ownH rfl (by omega) (gf := 78) (lb := #[.pointer (some ⟨Bm, 0, none⟩)]) rfl trivial (enters_of Try.func78 (by kernel_rfl) rfl)
    (keysA_stops 5 (by omega) Bm b nn D F (w.alloc (.cells #[.slice none 0 0] 73)) (by simp; omega) ((hB0.cell (p := ⟨Bm, 0, none⟩) hBm).trans hm) (hM.call hB0)) walksK_t walksK_b (Below.refl _ _) (fun _ => rfl)
    (fun pre W => (∃ v, Boxed W w.heap.size 73 v ∧ W.ownsRow w.heap.size 65 3 v pre.length (pre.flatMap encA) ∧ True) ∧ Below w.heap.size w W)
    (fun _ _ _ => False)
    (OwnFrom.and (Own.from (holdsRow_own w.heap.size w.heap.size 73 65 3 (fun pre : List AC => pre.length) (fun pre => pre.flatMap encA) (fun _ _ => True)) _) (ownFrom_below (Nat.le_refl _) (by simp)))
    (fun _ _ _ _ _ hs _ _ => hs)
    ⟨⟨_, bO, World.ownsRow_nil _ _ _ _, trivial⟩, hB0⟩
    (fun x a' W => ∃ Bx, w.heap.size < Bx ∧ W.cell? ⟨Bx, 0, none⟩ = some (.int .i64 x.1.1) ∧ W.cell? ⟨Bx, 1, none⟩ = some (.int .i64 x.1.2) ∧ W.cell? ⟨Bx, 2, none⟩ = some (.string x.2) ∧ a' = { tmps := #[.slice none 0 0, .func (.func 78) #[] #[.pointer (some ⟨Bm, 0, none⟩)], .pointer (some ⟨w.heap.size, 0, none⟩), undef, .slice none 0 0, .pointer (some ⟨Bx, 0, none⟩), .func (.func 78) #[] #[.pointer (some ⟨Bm, 0, none⟩)], .agg #[.int .i64 x.1.1, .int .i64 x.1.2, .string x.2], undef, undef, undef, undef, undef], defers := [] })
    (fun x a' s X Y row hs hg hr => by obtain ⟨Bx, h1, h2, h3, h4, h5⟩ := hs; exact ⟨Bx, h1, cell_kept h2 hg (fun r e => (hr r e).2), cell_kept h3 hg (fun r e => (hr r e).2), cell_kept h4 hg (fun r e => (hr r e).2), h5⟩)
    ?assign ?body ?done ?stop
  case assign =>
    rintro l pre x W K ⟨⟨v, hv, hrow, _⟩, hB⟩ hK
    have HK := Lib.hid hK
    have HV := Lib.hid hv
    have HROW := Lib.hid hrow
    have HBB := Lib.hid hB
    have hsz := hB.size
    have hlt := hv.lt
    clear hK hv hrow hB
    dsimp only [accV]
    gi_wp2
    exact HK.out _ _ ((KeepsOthers.alloc _ _).from _) (KeepsWalks.alloc _ _) ⟨⟨v, HV.out.alloc _, HROW.out.alloc _, trivial⟩, HBB.out.alloc hsz _⟩ ⟨W.heap.size, hlt, by simp, by simp, by simp, rfl⟩
  case body =>
    rintro l pre x a' W hl ⟨r, hr⟩ ⟨⟨v, hv, hrow, _⟩, hB⟩ ⟨Bx, hBx, hx0, hx1, hx2, rfl⟩ hlt
    have hc := hv.cell
    have hsz := hB.size
    gi_wp2_with (gi_at_builtin; refine wpListIn_append_own _ rfl _ _ 73 rfl w.heap.size 65 i0 (.agg #[.int .i64 0, .int .i64 0, .string ⟨#[]⟩]) 3 32 Try.underlying73 hi hz0 hz1 hz2 rfl (by decide) _ _ _ rfl (hrow.alloc _) ⟨W.heap.size, 0, none⟩ 1 1 [.int .i64 x.1.1, .int .i64 x.1.2, .string x.2] rfl rfl (cell_new3 _ _ _ _ _) (by simp [Value.oneCell']) (by unfold maxLen; omega) (by omega) (by simp; omega) ?_; intro v' w1 hown' hgrow _; obtain ⟨g', cap', rfl⟩ := ownsRow_succ hown'; obtain ⟨hv1, hv2, hr2, hk2, hb2⟩ := hv.appended (by decide) hrow hB.size (Nat.le_refl _) hown' hgrow; have hc1 := hv1.cell; have hf1 := hv1.frozen)
    exact ⟨hk2.from _, hk2.walks, ⟨_, hv2, by simpa [encA] using hr2, trivial⟩, hB.trans hb2⟩
  case done =>
    rintro D2 ys W hD ⟨hall, hlen⟩ ⟨⟨v, hv, hrow, _⟩, hB⟩ hK
    have hc := hv.cell
    gi_wp2
    refine ⟨by simp, .inl ⟨_, _, rfl, run_takeDeferred hK, ?_⟩⟩
    exact ⟨_, results_tmp rfl _ _ _, v, ys, rfl, hall, hlen, ownsRow_putObj hrow _ hK rfl, hB.trans (belowK_b (w := w) (Nat.le_refl _) W D2 _ _ (by simp at hD; omega) hK rfl rfl)⟩
  case stop =>
    rintro D2 c pre W _ _ h _
    exact h.elim
end Go.Proofs.Ytjhcphmehlihcaa.RepC
