/- Of this claim's texts the part 2: NdL NdQ NdC NdD NdZ NdM NdG NdT1 NdZ2. -/
import Derived.Test.YtfciojkibklkfaaPT1
section
namespace Go.Proofs.Ytfciojkibklkfaa.RepC
open Go.RowKit RowC ValC SpanC KeptC
set_option linter.unusedVariables false
set_option linter.unusedSimpArgs false
theorem take_more {α : Type} {L : List α} {k : Nat} {x : α} (h : L[k]? = some x) : L.take k ++ [x] = L.take (k + 1) := by rw [List.take_add_one, h, Option.toList_some]
set_option maxRecDepth 100000 in
set_option maxHeartbeats 3200000 in
theorem copy_nodes {L : List D_Node} {a : Option Addr} {cap : Nat} {W : World} (hn : L.length ≤ 4096) (hM : ∀ x ∈ L, x.2.length ≤ 1048576) (h : RdSl R_Node W W.heap.size L a cap) :
    Calls Try.prog 60 #[.slice a L.length cap] W (NewS R_Node L W) := by
  have H := Lib.hid h
  have HS := Lib.hid hM
  clear h hM
  obtain ⟨w0, hw0⟩ : ∃ w, w = W.alloc (.cells #[] 42) := ⟨_, rfl⟩
  have hb0 : Below W.heap.size W w0 := by rw [hw0]; exact (Below.refl _ _).alloc (Nat.le_refl _) _
  have HR0 := Lib.hid (show ARow R_Node w0 W.heap.size 42 (.slice (some ⟨W.heap.size, 0, none⟩) 0 0) [] from by rw [hw0]; exact ARow.made _ _ _)
  have HB0 := Lib.hid hb0
  clear hb0
  go_enter Try.func60, Try.ntmps60
  go_wp2
  rw [← hw0]
  clear hw0
  go_loopw [4, 3] (fun i v wr => ∃ k : Nat, k ≤ L.length ∧ i = .int .i64 k ∧ Hid (ARow R_Node wr W.heap.size 42 v (L.take k)) ∧ Below W.heap.size W wr) (fun i _ _ => L.length - (intOf i).toNat)
  case atStart => exact ⟨0, Nat.zero_le _, rfl, HR0, HB0.out⟩
  case round =>
    obtain ⟨k, hk, rfl, HR, hB⟩ := hrel
    have HB := Lib.hid hB
    have hsz := hB.size
    obtain ⟨va, vc, hv⟩ := HR.out.isSlice
    rw [List.length_take, Nat.min_eq_left hk] at hv
    subst hv
    by_cases hlt : k < L.length
    · obtain ⟨x, hx⟩ := el_some hlt
      have HT := Lib.hid (take_more hx)
      have hxl := HS.out x (List.mem_of_getElem? hx)
      have hcr := H.out
      obtain ⟨g, o, us, rfl, hg, hu, hr⟩ := hcr.at_ hx
      obtain ⟨st, M⟩ := x
      obtain ⟨ba, bc, rfl, hM⟩ := rd_Node hr
      have e0 : W.cell? ⟨g, o + k * 2, none⟩ = some (.int .i64 st) := by simpa [size_NodeS] using hu 0 _ rfl
      have e1 : W.cell? ⟨g, o + k * 2 + 1, none⟩ = some (.slice ba M.length bc) := by simpa [size_NodeS, Nat.add_assoc] using hu 1 _ rfl
      have hi0 : (0 : Int) ≤ (k : Int) := Int.natCast_nonneg _
      have hi1 : (k : Int) < (L.length : Int) := by omega
      have hMr : RdSl R_Span wr.drew wr.drew.heap.size M ba bc := (mv_rd R_Span_ok hM HB.out.drew)
      obtain ⟨a1, c1, w1, hrun1, ho1, hb1⟩ := copy_spans (ty := 39) (w := wr.drew) hxl hMr
      have hb1' : Below wr.heap.size wr w1 := (Below.refl _ wr).drew.trans hb1
      have ho1' : OwSl R_Span w1 (Rg wr.heap.size w1.heap.size) M a1 c1 := ho1
      have HRun1 := Lib.hid (show (Builtin.append_ #[39, 39] 39 #[.slice (some ⟨wr.heap.size, 0, none⟩) 0 0, .slice ba M.length bc]).run Try.prog ((wr.alloc (.cells #[] 25)).drew) = .ok (.slice a1 M.length c1) w1 from hrun1)
      obtain ⟨w2, hw2⟩ : ∃ w, w = w1.alloc (.cells #[.int .i64 st, .slice a1 M.length c1] 42) := ⟨_, rfl⟩
      have hb12 : Below w1.heap.size w1 w2 := by rw [hw2]; exact (Below.refl _ _).alloc (Nat.le_refl _) _
      have hbl : Blk w2 w1.heap.size 42 #[.int .i64 st, .slice a1 M.length c1] := by rw [hw2]; exact Blk.new _ _ _
      have ho2 : OwSl R_Span w2 (Rg wr.heap.size w2.heap.size) M a1 c1 := (ho1'.keep R_Span_ok fun q hq => hb12.block q hq.2).more fun q hq => ⟨hq.1, Nat.lt_of_lt_of_le hq.2 hb12.size⟩
      have hb2 : Below wr.heap.size wr w2 := hb1'.trans (hb12.mono hb1'.size)
      obtain ⟨a3, c3, w3, hrun3, hrow, hb3⟩ := app_node HR.out hb2 hbl ho2 (by rw [List.length_take]; omega)
      have HRun3 := Lib.hid hrun3
      rw [hw2] at HRun3
      have HB1 := Lib.hid (HB.out.trans (hb1'.mono hsz))
      have HB2 := Lib.hid (HB.out.trans (hb2.mono hsz))
      have HB3 := Lib.hid (HB2.out.trans hb3)
      rw [hw2] at HB2
      have hlen : (L.take (k + 1)).length = k + 1 := by rw [List.length_take]; omega
      rw [HT.out, hlen] at hrow HRun3
      have HR3 := Lib.hid hrow
      have HA1 := Lib.hid (HB.out.drew.alloc hsz (.cells #[] 25))
      have HG := Lib.hid hg
      clear hrun1 hrun3 hrow hb1 hb1' ho1 ho1' hb12 hbl ho2 hb2 hb3 hw2 hMr hB hcr hu hr hM hx hlen
      go_upto_region 5 with fail
      refine wp_region_held_drew (S := (fun V => Below W.heap.size W V)) (by kernel_rfl) (HB.out.drew) (fun hHeld => ?_)
      refine tk 0 hHeld ?_
      refine tk 1 hHeld ?_
      refine tk 2 hHeld ?_
      refine tk 3 hHeld ?_
      refine tk 4 hHeld ?_
      refine tk 5 hHeld ?_ (hy := fun w hSw => by (try dsimp only at hSw); have k0 := (hSw.cell (p := ⟨g, o + k * 2, none⟩) HG.out).trans e0; clear hSw; go_simp; try with_reducible rfl)
      refine tk 7 hHeld ?_
      refine tk 8 hHeld ?_
      refine tk 9 hHeld ?_
      refine tk 10 hHeld ?_
      refine tk 11 hHeld ?_ (hy := fun w hSw => by (try dsimp only at hSw); have k0 := (hSw.cell (p := ⟨g, o + k * 2 + 1, none⟩) HG.out).trans e1; clear hSw; go_simp; try with_reducible rfl)
      refine rd1 6 (fun K hK => ?_)
      go_simp
      refine hK.out _ _ HA1.out (fun hHeld => ?_)
      clear hK K
      refine rd1 12 (fun K hK => ?_)
      refine step_app rfl (.tmp 18) (.tmp 23) 39 rfl rfl rfl HRun1.out ?_
      refine hK.out _ _ HB1.out (fun hHeld => ?_)
      clear hK K
      refine tk 13 hHeld ?_
      refine rd1 14 (fun K hK => ?_)
      go_simp
      refine hK.out _ _ HB2.out (fun hHeld => ?_)
      clear hK K
      refine rd1 15 (fun K hK => ?_)
      refine step_app rfl (.tmp 12) (.tmp 26) 23 rfl rfl rfl HRun3.out ?_
      refine hK.out _ _ HB3.out (fun hHeld => ?_)
      clear hK K
      refine tk 16 hHeld ?_
      refine rd0 ?_
      clear hHeld
      go_wp2
      go_roundw
      case rel => exact ⟨k + 1, by omega, by go_num, HR3, HB3.out⟩
      case measure => simp [intOf]; omega
    · have hdl : decide ((k : Int) < (L.length : Int)) = false := decide_eq_false (by omega)
      obtain rfl : k = L.length := by omega
      have HR2 := Lib.hid (show ARow R_Node wr W.heap.size 42 (.slice va L.length vc) L from by have := HR.out; rwa [List.take_length] at this)
      clear hB
      go_wp2
      go_ret
      exact HR2.out.news R_Node_ok (Nat.le_refl _) HB.out
end Go.Proofs.Ytfciojkibklkfaa.RepC
end
section
namespace Go.Proofs.Ytfciojkibklkfaa.RepC
open Go.RowKit RowC ValC SpanC KeptC
set_option linter.unusedVariables false
set_option linter.unusedSimpArgs false
theorem rd_oneM {w : World} {g : Nat} {M : List D_Span} {a : Option Addr} {c : Nat} (h : Blk w g 39 #[.slice a M.length c]) (hM : RdSl R_Span w w.heap.size M a c) : RdSl (Sl R_Span) w w.heap.size [M] (some ⟨g, 0, none⟩) 1 := by
  refine ⟨Nat.le_refl _, by unfold maxLen; omega, fun _ => ⟨g, 0, rfl, h.lt, fun i x hx => ?_⟩⟩
  cases i with
  | zero =>
    simp at hx
    subst hx
    refine ⟨[.slice a M.length c], fun j d hj => ?_, a, c, rfl, hM⟩
    simpa using h.at_ j (by simpa using hj)
  | succ i => simp at hx
theorem nodesR_small {L : List D_Node} (h : NodesR L) : L.length ≤ 4096 ∧ ∀ x ∈ L, x.2.length ≤ 1048576 := ⟨by have := h.1.2; omega, fun x hx => by have := (h.2 x hx).2.1; omega⟩
end Go.Proofs.Ytfciojkibklkfaa.RepC
end
section
namespace Go.Proofs.Ytfciojkibklkfaa.RepC
open Go.RowKit RowC ValC SpanC KeptC
set_option linter.unusedVariables false
set_option linter.unusedSimpArgs false
structure CopN (w W : World) (L : List D_Node) (g k : Nat) (Sf : Nat → Nat → Prop) : Prop where
  el : ∀ i x, L[i]? = some x → ∃ a c, W.cell? ⟨g, i * 2, none⟩ = some (.int .i64 x.1) ∧ W.cell? ⟨g, i * 2 + 1, none⟩ = some (.slice a x.2.length c) ∧ (i < k → OwSl R_Span W (Sf i) x.2 a c) ∧ (k ≤ i → RdSl R_Span W w.heap.size x.2 a c)
  soft : ∀ j, W.frozen? ⟨g, j, none⟩ = false
  sub : ∀ i q, Sf i q → g < q ∧ q < W.heap.size ∧ i < k
  dis : ∀ i j q, i < j → Sf i q → ¬ Sf j q
  base : w.heap.size ≤ g
  lt : g < W.heap.size
  below : Below w.heap.size w W
theorem CopN.call {w W W' : World} {L : List D_Node} {g k : Nat} {Sf : Nat → Nat → Prop} (h : CopN w W L g k Sf) (hb : Below W.heap.size W W') : CopN w W' L g k Sf := by
  refine ⟨fun i x hx => ?_, fun j => (hb.frozen (p := ⟨g, j, none⟩) h.lt).trans (h.soft j), fun i q hq => by have := h.sub i q hq; have := hb.size; omega, h.dis, h.base, Nat.lt_of_lt_of_le h.lt hb.size, h.below.trans (hb.mono h.below.size)⟩
  obtain ⟨a, c, h1, h2, h3, h4⟩ := h.el i x hx
  exact ⟨a, c, (hb.cell (p := ⟨g, i * 2, none⟩) h.lt).trans h1, (hb.cell (p := ⟨g, i * 2 + 1, none⟩) h.lt).trans h2, fun hi => (h3 hi).keep R_Span_ok fun q hq => hb.block q (h.sub i q hq).2.1, fun hi => (h4 hi).below R_Span_ok (hb.mono h.below.size)⟩
theorem CopN.put {w W W1 : World} {L : List D_Node} {g k : Nat} {Sf : Nat → Nat → Prop} {x : D_Node} {a : Option Addr} {c : Nat} (h : CopN w W L g k Sf) (hx : L[k]? = some x) (hb : Below W.heap.size W W1) (hr : OwSl R_Span W1 (Rg W.heap.size W1.heap.size) x.2 a c) :
    CopN w (W1.setCell ⟨g, k * 2 + 1, none⟩ (.slice a x.2.length c)) L g (k + 1) (fun i q => if i = k then Rg W.heap.size W1.heap.size q else Sf i q) := by
  have hgl := h.lt
  have hsz := hb.size
  have hbs := h.base
  have hws := h.below.size
  obtain ⟨a0, c0, g1, g2, _, _⟩ := h.el k x hx
  have hk1 : W1.cell? ⟨g, k * 2 + 1, none⟩ = some (.slice a0 x.2.length c0) := (hb.cell (p := ⟨g, k * 2 + 1, none⟩) hgl).trans g2
  have hset : ∀ q, q ≠ g → (W1.setCell ⟨g, k * 2 + 1, none⟩ (.slice a x.2.length c)).heap[q]? = W1.heap[q]? := fun q hq => Below.heap_setCell W1 ⟨g, k * 2 + 1, none⟩ _ q hq
  have hss : (W1.setCell ⟨g, k * 2 + 1, none⟩ (.slice a x.2.length c)).heap.size = W1.heap.size := by simp
  refine ⟨fun i y hy => ?_, fun j => ?_, fun i q hq => ?_, fun i j q hij hi => ?_, h.base, by rw [hss]; omega, (h.below.trans (hb.mono hws)).setCell (by exact hbs) _⟩
  · by_cases e : i = k
    · subst e
      rw [hx] at hy
      cases hy
      refine ⟨a, c, ?_, World.cell?_setCell_same _ _ _ hk1, fun _ => ?_, fun hi => absurd hi (by omega)⟩
      · rw [World.cell?_setCell_other _ _ _ _ (fun e => by injection e with _ e2; omega)]
        exact (hb.cell (p := ⟨g, i * 2, none⟩) hgl).trans g1
      · simp only [if_true]
        exact hr.keep R_Span_ok fun q hq => hset q (by unfold Rg at hq; omega)
    · obtain ⟨a', c', h1, h2, h3, h4⟩ := h.el i y hy
      refine ⟨a', c', ?_, ?_, fun hi => ?_, fun hi => ?_⟩
      · rw [World.cell?_setCell_other _ _ _ _ (fun e => by injection e with _ e2; omega)]
        exact (hb.cell (p := ⟨g, i * 2, none⟩) hgl).trans h1
      · rw [World.cell?_setCell_other _ _ _ _ (fun e => by injection e with _ e2; omega)]
        exact (hb.cell (p := ⟨g, i * 2 + 1, none⟩) hgl).trans h2
      · simp only [e, if_false]
        exact ((h3 (by omega)).keep R_Span_ok fun q hq => hb.block q (h.sub i q hq).2.1).keep R_Span_ok fun q hq => hset q (by have := h.sub i q hq; omega)
      · exact (h4 (by omega)).below R_Span_ok ((hb.mono hws).trans ((Below.refl _ _).setCell (by exact hbs) _))
  · simp only [World.frozen?_setCell]
    exact (hb.frozen (p := ⟨g, j, none⟩) hgl).trans (h.soft j)
  · rw [hss]
    by_cases e : i = k
    · simp only [e, if_true] at hq
      unfold Rg at hq
      omega
    · simp only [e, if_false] at hq
      have := h.sub i q hq
      omega
  · by_cases e1 : i = k
    · subst e1
      simp only [if_true] at hi
      have e2 : j ≠ i := by omega
      simp only [e2, if_false]
      intro hj
      have := (h.sub j q hj).2.2
      omega
    · simp only [e1, if_false] at hi
      by_cases e2 : j = k
      · simp only [e2, if_true]
        have := (h.sub i q hi).2.1
        unfold Rg
        omega
      · simp only [e2, if_false]
        exact h.dis i j q hij hi
theorem CopN.done {w W : World} {L : List D_Node} {g : Nat} {Sf : Nat → Nat → Prop} (h : CopN w W L g L.length Sf) : Row R_Node W (Rg w.heap.size W.heap.size) L g Sf := by
  refine ⟨⟨h.base, h.lt⟩, h.soft, fun i k hk => ⟨⟨by have := (h.sub i k hk).1; have := h.base; omega, (h.sub i k hk).2.1⟩, by have := (h.sub i k hk).1; omega⟩, h.dis, fun i x hx => ?_⟩
  obtain ⟨a, c, h1, h2, h3, _⟩ := h.el i x hx
  refine ⟨[.int .i64 x.1, .slice a x.2.length c], fun j d hd => ?_, mkow_Node (fun k hk => hk) (h3 (el_lt hx))⟩
  rw [size_NodeS]
  match j, hd with
  | 0, hd => simp at hd; subst hd; simpa using h1
  | 1, hd => simp at hd; subst hd; exact h2
  | j + 2, hd => simp at hd
theorem Row.put {α : Type} {E : Rp α} (hE : Ok E) {W W' : World} {S T : Nat → Prop} {L : List α} {g i : Nat} {Sf : Nat → Nat → Prop} {x : α} {us : List Value} (h : Row E W S L g Sf) (hS : ∀ k, S k → k < W.heap.size) (hU : Upd W W' g (i * E.size) ((i + 1) * E.size) (Sf i))
    (hT : ∀ k, T k → W.heap.size ≤ k) (hc : CellsAt W' g (i * E.size) us) (hr : E.ow W' T x us) : Row E W' (fun k => S k ∨ T k) (L.set i x) g (fun j k => if j = i then T k else Sf j k) := by
  have hg := hS g h.own
  refine ⟨.inl h.own, fun j => (hU.soft j).trans (h.soft j), fun j k hk => ?_, fun j l k hjl hj => ?_, fun j y hy => ?_⟩
  · by_cases e : j = i
    · simp only [e, if_true] at hk; exact ⟨.inr hk, by have := hT k hk; omega⟩
    · simp only [e, if_false] at hk; exact ⟨.inl (h.sub j k hk).1, (h.sub j k hk).2⟩
  · by_cases e : j = i
    · have e2 : l ≠ i := by omega
      simp only [e, if_true] at hj
      simp only [e2, if_false]
      exact fun hl => by have := hT k hj; have := hS k (h.sub l k hl).1; omega
    · simp only [e, if_false] at hj
      by_cases e2 : l = i
      · simp only [e2, if_true]
        exact fun hl => by have := hT k hl; have := hS k (h.sub j k hj).1; omega
      · simp only [e2, if_false]
        exact h.dis j l k hjl hj
  · by_cases e : i = j
    · subst e
      rw [List.getElem?_set] at hy
      split at hy
      · split at hy
        · injection hy with hy
          subst hy
          exact ⟨us, hc, by simpa using hr⟩
        · cases hy
      · exact absurd rfl ‹_›
    · rw [List.getElem?_set_ne e] at hy
      obtain ⟨vs, hv, hw⟩ := h.el j y hy
      have e' : j ≠ i := fun q => e q.symm
      refine ⟨vs, fun p c hp => ?_, ?_⟩
      · have hl := (List.getElem?_eq_some_iff.1 hp).1
        rw [hE.ow_len hw] at hl
        rw [hU.cells _ (mul_lt_el hl e)]
        exact hv p c hp
      · simp only [e', if_false]
        refine hE.ow_keep hw fun k hk => hU.block k (hS k (h.sub j k hk).1) (h.sub j k hk).2 (fun hi => ?_)
        rcases Nat.lt_or_gt_of_ne e with e2 | e2
        · exact h.dis i j k e2 hi hk
        · exact h.dis j i k e2 hk hi
end Go.Proofs.Ytfciojkibklkfaa.RepC
end
section
namespace Go.Proofs.Ytfciojkibklkfaa.RepC
open Go.RowKit RowC ValC SpanC KeptC
set_option linter.unusedVariables false
set_option linter.unusedSimpArgs false
theorem node_cells {W : World} {B : Nat} {L : List D_Node} {g o cap : Nat} (h : RdSl R_Node W B L (some ⟨g, o, none⟩) cap) : ∀ q, q ≤ L.length → ∃ cs : List Value, cs.length = q * 2 ∧ CellsAt W g o cs ∧ (∀ u ∈ cs, u.oneCell' = true) ∧
    ∀ i x, i < q → L[i]? = some x → ∃ a c, cs[i * 2]? = some (.int .i64 x.1) ∧ cs[i * 2 + 1]? = some (.slice a x.2.length c) ∧ RdSl R_Span W B x.2 a c := by
  intro q
  induction q with
  | zero => exact fun _ => ⟨[], rfl, CellsAt.nil, fun u hu => by simp at hu, fun i x hi => absurd hi (Nat.not_lt_zero _)⟩
  | succ q ih =>
    intro hq
    obtain ⟨cs, hl, hc, h1, he⟩ := ih (by omega)
    obtain ⟨x, hx⟩ := el_some (show q < L.length by omega)
    obtain ⟨g', o', us, e, _, hu, hr⟩ := h.at_ hx
    cases e
    obtain ⟨st, M⟩ := x
    obtain ⟨a, c, rfl, hM⟩ := rd_Node hr
    rw [size_NodeS] at hu
    refine ⟨cs ++ [.int .i64 st, .slice a M.length c], by simp [hl]; omega, CellsAt.app.2 ⟨hc, by rw [hl]; exact hu⟩, fun u hu => ?_, fun i y hi hy => ?_⟩
    · rcases List.mem_append.1 hu with h | h
      · exact h1 u h
      · simp at h; rcases h with rfl | rfl <;> rfl
    · by_cases e : i = q
      · subst e
        rw [hx] at hy
        cases hy
        refine ⟨a, c, ?_, ?_, hM⟩
        · rw [List.getElem?_append_right (by omega), hl, Nat.sub_self]; rfl
        · rw [List.getElem?_append_right (by omega), hl, show i * 2 + 1 - i * 2 = 1 by omega]; rfl
      · obtain ⟨a', c', h2, h3, h4⟩ := he i y (by omega) hy
        exact ⟨a', c', by rw [List.getElem?_append_left (by omega)]; exact h2, by rw [List.getElem?_append_left (by omega)]; exact h3, h4⟩
def CopR (L : List D_Node) (W : World) (e : Ending) (w' : World) : Prop := ∃ g c, e = .returned (.slice (some ⟨g, 0, none⟩) L.length c) ∧ L.length ≤ c ∧ c ≤ maxLen ∧ CopN W w' L g 0 noSf
theorem copR_elim {L : List D_Node} {W : World} {e : Ending} {w' : World} (h : CopR L W e w') : ∃ g c, e = .returned (.slice (some ⟨g, 0, none⟩) L.length c) ∧ L.length ≤ c ∧ c ≤ maxLen ∧ CopN W w' L g 0 noSf := h
theorem app_cells {W : World} {L : List D_Node} {a : Option Addr} {cap : Nat} (hn : L.length ≤ 4096) (h0 : 0 < L.length) (h : RdSl R_Node W W.heap.size L a cap) :
    ∃ g c w', (Builtin.append_ #[23, 23] 23 #[.slice (some ⟨W.heap.size, 0, none⟩) 0 0, .slice a L.length cap]).run Try.prog (W.alloc (.cells #[] 42)) = .ok (.slice (some ⟨g, 0, none⟩) L.length c) w' ∧ L.length ≤ c ∧ c ≤ maxLen ∧ CopN W w' L g 0 noSf := by
  obtain ⟨i, hi, hz, hs, hby⟩ := infoNode
  have hbel : Below W.heap.size W (W.alloc (.cells #[] 42)) := (Below.refl _ _).alloc (Nat.le_refl _) _
  obtain ⟨g, o, rfl, hg, _⟩ := h.2.2 h0
  obtain ⟨cs, hl, hc, h1, he⟩ := node_cells h L.length (Nat.le_refl _)
  obtain ⟨v', w', hrun, hown, hgr, _, hat⟩ := run_append_own_at (P := Try.prog) (W.alloc (.cells #[] 42)) W.heap.size 23 23 42 i _ 2 32 Try.underlying23 hi hz hs hby rfl (by decide) _ 0 [] (App.made R_Node W 42).own ⟨g, o, none⟩ L.length cap cs hl
    (fun j u hj => by
      have hadd : (⟨g, o, none⟩ : Addr).add j = ⟨g, o + j, none⟩ := by unfold Addr.add; split <;> simp_all
      rw [hadd]
      exact (hbel.cell (p := ⟨g, o + j, none⟩) hg).trans (hc j u hj)) h1 (by unfold maxLen; omega) (by omega) (by simp)
  rw [Nat.zero_add, List.nil_append] at hown
  have hb2 : Below W.heap.size W w' := hbel.trans (by
    refine ⟨hgr.os, hgr.tape, hgr.output, hgr.size, fun k hk => hgr.block k (by simp; omega) (fun e => by cases e; exact Nat.lt_irrefl _ hk)⟩)
  rcases hown.2 with ⟨hn0, hL0⟩ | ⟨g', cap', cur, rfl, hlo, hgg, hnc, hm, hcc, htk⟩
  · omega
  · have hgl : g' < w'.heap.size := (Array.getElem?_eq_some_iff.1 hgg).1
    have hcell : ∀ j u, cs[j]? = some u → w'.cell? ⟨g', j, none⟩ = some u := fun j u hj => by
      rw [← htk, List.getElem?_take] at hj
      split at hj
      · exact (cell_of_row w' g' j cur _ _ hgg).trans (by simpa using hj)
      · cases hj
    refine ⟨g', cap', w', hrun, hnc, hm, ⟨fun i x hx => ?_, fun j => by simp [World.frozen?, hgg], fun _ _ h => h.elim, fun _ _ _ _ h => h.elim, hlo, hgl, hb2⟩⟩
    obtain ⟨a, c, h2, h3, h4⟩ := he i x (el_lt hx) hx
    exact ⟨a, c, hcell _ _ h2, hcell _ _ h3, fun h => absurd h (Nat.not_lt_zero _), fun _ => h4.below R_Span_ok hb2⟩
set_option maxRecDepth 100000 in
set_option maxHeartbeats 1600000 in
theorem cloneN_impl {L : List D_Node} {a : Option Addr} {cap : Nat} {W : World} (hn : L.length ≤ 4096) (h0 : 0 < L.length) (h : RdSl R_Node W W.heap.size L a cap) :
    Calls Try.prog 91 #[.slice a L.length cap] W (CopR L W) := by
  obtain ⟨g, c, w', hrun, h1, h2, h3⟩ := app_cells hn h0 h
  obtain ⟨g0, o0, rfl, _⟩ := h.2.2 h0
  have HRun := Lib.hid hrun
  have HC := Lib.hid h3
  clear h hrun h3
  have hnil : ∀ W, (binOp .eql 23 (.slice (some ⟨g0, o0, none⟩) L.length cap) (.slice none 0 0)).run Try.prog W = .ok (.bool false) W := fun W => Lib.run_eql_slice_nil W _ _ _ _ _ _ _ Try.underlying23
  go_enter Try.func91, Try.ntmps91
  go_wp2_with (at_builtin; refine wpList_app rfl (.tmp 5) (.tmp 6) 23 rfl rfl rfl HRun.out ?_)
  go_ret
  exact ⟨g, c, rfl, h1, h2, HC.out⟩
set_option maxRecDepth 100000 in
set_option maxHeartbeats 3200000 in
theorem copy_impl {L : List D_Node} {a : Option Addr} {cap : Nat} {W : World} (hn : L.length ≤ 4096) (h0 : 0 < L.length) (hM : ∀ x ∈ L, x.2.length ≤ 1048576) (h : RdSl R_Node W W.heap.size L a cap) :
    Calls Try.prog 75 #[.slice a L.length cap] W (NewS R_Node L W) := by
  have hcl := cloneN_impl hn h0 h
  have HS := Lib.hid hM
  clear h hM
  go_enter Try.func75, Try.ntmps75
  go_wp2_with fail
  refine hcl.mono ?_
  intro e w0 h
  obtain ⟨g, c, rfl, hc1, hc2, hC⟩ := copR_elim h
  have HC0 := Lib.hid hC
  clear h hC hcl
  go_wp2
  go_loopw [10] (fun i wr => ∃ k : Nat, k ≤ L.length ∧ i = .int .i64 k ∧ ∃ Sf, Hid (CopN W wr L g k Sf)) (fun i _ => L.length - (intOf i).toNat)
  case atStart => exact ⟨0, Nat.zero_le _, rfl, _, HC0⟩
  case round =>
    obtain ⟨k, hk, rfl, Sf, HC⟩ := hrel
    by_cases hlt : k < L.length
    · obtain ⟨x, hx⟩ := el_some hlt
      have hxl := HS.out x (List.mem_of_getElem? hx)
      have hlt' := HC.out.lt
      obtain ⟨ba, bc, e0, e1, _, hr⟩ := HC.out.el k x hx
      have hr := (hr (Nat.le_refl _)).more R_Span_ok HC.out.below.size
      obtain ⟨st, M⟩ := x
      have hi0 : (0 : Int) ≤ (k : Int) := Int.natCast_nonneg _
      have hi1 : (k : Int) < (L.length : Int) := by omega
      obtain ⟨w1, hw1⟩ : ∃ w, w = wr.alloc (.cells #[.int .i64 st, .slice ba M.length bc] 42) := ⟨_, rfl⟩
      have hb1 : Below wr.heap.size wr w1 := by rw [hw1]; exact (Below.refl _ _).alloc (Nat.le_refl _) _
      have X1 : Blk w1 wr.heap.size 42 #[.int .i64 st, .slice ba M.length bc] := by rw [hw1]; exact Blk.new _ _ _
      have hs1 : w1.heap.size = wr.heap.size + 1 := by rw [hw1]; simp
      obtain ⟨w2, hw2⟩ : ∃ w, w = w1.alloc (.cells #[.slice ba M.length bc] 39) := ⟨_, rfl⟩
      have hb2 : Below w1.heap.size w1 w2 := by rw [hw2]; exact (Below.refl _ _).alloc (Nat.le_refl _) _
      have X2 : Blk w2 w1.heap.size 39 #[.slice ba M.length bc] := by rw [hw2]; exact Blk.new _ _ _
      have hb12 : Below wr.heap.size wr w2 := hb1.trans (hb2.mono (by omega))
      have hbk := books_impl (Ls := [M]) (by simpa using hxl) (rd_oneM X2 (mv_rd R_Span_ok hr hb12))
      rw [show ([M] : List (List D_Span)).flatten = M by simp, hs1] at hbk
      have HBK := Lib.hid hbk
      have HB12 := Lib.hid hb12
      have HX := Lib.hid hx
      have p0 := X1.at_ 0 rfl
      have p1 := X1.at_ 1 rfl
      rw [hw1] at p0 p1
      clear hbk hb1 hb2 hb12 X1 X2 hr hx hs1
      go_wp2_with fail
      rw [← hw1, ← hw2]
      clear p0 p1 hw1 hw2
      refine HBK.out.mono ?_
      intro e w3 h
      obtain ⟨a', c', rfl, ho, hb⟩ := newS_elim h
      have hz2 := HB12.out.size
      have hb3 : Below wr.heap.size wr w3 := HB12.out.trans (hb.mono hz2)
      have hput := HC.out.put HX.out hb3 (ho.more fun q hq => ⟨Nat.le_trans hz2 hq.1, hq.2⟩)
      have HP := Lib.hid hput
      have d1 : w3.cell? ⟨g, k * 2 + 1, none⟩ = some (.slice ba M.length bc) := (hb3.cell (p := ⟨g, k * 2 + 1, none⟩) hlt').trans e1
      have f1 : w3.frozen? ⟨g, k * 2 + 1, none⟩ = false := (hb3.frozen (p := ⟨g, k * 2 + 1, none⟩) hlt').trans (HC.out.soft _)
      clear h ho hb hb3 hput e0 e1
      go_wp2
      go_roundw
      case rel => exact ⟨k + 1, by omega, by go_num, _, HP⟩
      case measure => simp [intOf]; omega
    · have hdl : decide ((k : Int) < (L.length : Int)) = false := decide_eq_false (by omega)
      obtain rfl : k = L.length := by omega
      have HD := Lib.hid HC.out.done
      go_wp2
      go_ret
      exact ⟨_, _, rfl, HD.out.slice hc1 hc2, HC.out.below⟩
end Go.Proofs.Ytfciojkibklkfaa.RepC
end
section
namespace Go.Proofs.Ytfciojkibklkfaa.RepC
open Go.RowKit RowC ValC SpanC KeptC
set_option linter.unusedVariables false
set_option linter.unusedSimpArgs false
def ChgR (wq : World) (S : Nat → Prop) (chg : D_Node → Int × D_Node) (M : List D_Node) (g k : Nat) (x : D_Node) (e : Ending) (w' : World) : Prop :=
  e = .returned (.int .i64 (chg x).1) ∧ Off S wq w' ∧ ((chg x).1 = 0 → ∃ S' Sf', Row R_Node w' S' (M.set k (chg x).2) g Sf' ∧ ∀ q, S' q → (S q ∨ wq.heap.size ≤ q) ∧ q < w'.heap.size)
theorem chgR_elim {wq : World} {S : Nat → Prop} {chg : D_Node → Int × D_Node} {M : List D_Node} {g k : Nat} {x : D_Node} {e : Ending} {w' : World} (h : ChgR wq S chg M g k x e w') : e = .returned (.int .i64 (chg x).1) ∧ Off S wq w' ∧ ((chg x).1 = 0 → ∃ S' Sf', Row R_Node w' S' (M.set k (chg x).2) g Sf' ∧ ∀ q, S' q → (S q ∨ wq.heap.size ≤ q) ∧ q < w'.heap.size) := h
def ChgF (F : Nat) (lb : Array Value) (chg : D_Node → Int × D_Node) (W : World) : Prop :=
  ∀ (wq : World) (S : Nat → Prop) (M : List D_Node) (g k : Nat) (Sf : Nat → Nat → Prop) (x : D_Node), Row R_Node wq S M g Sf → (∀ q, S q → q < wq.heap.size) → (∀ q, S q → W.heap.size ≤ q) → Below W.heap.size W wq → M[k]? = some x → okN x →
    Calls Try.prog F (#[.pointer (some ⟨g, k * 2, none⟩)] ++ lb) wq (ChgR wq S chg M g k x)
theorem out_ill {W w' : World} {c : Int} (hb : Below W.heap.size W w') : NewV R_NodesOut ([], c) W (.returned (.agg #[.slice none 0 0, .int .i64 c])) w' :=
  ⟨[.slice none 0 0, .int .i64 c], rfl, mkow_NodesOut (T0 := fun _ => False) (L0 := []) (fun k h => h.elim) ⟨Nat.le_refl _, Nat.zero_le _, fun h => absurd h (Nat.lt_irrefl _)⟩, hb⟩
theorem chgV_size {L : List D_Node} {n : Int} {ok : Bool} {chg : D_Node → Int × D_Node} (h : 400 < L.length) : chgV L n ok chg = ([], 2) := by unfold chgV; rw [if_pos h]
theorem chgV_form {L : List D_Node} {n : Int} {ok : Bool} {chg : D_Node → Int × D_Node} (h : ¬ 400 < L.length) (h2 : (nodesB L && ok) = false) : chgV L n ok chg = ([], 1) := by unfold chgV; rw [if_neg h, if_pos h2]
theorem chgV_none {L : List D_Node} {n : Int} {ok : Bool} {chg : D_Node → Int × D_Node} (h : ¬ 400 < L.length) (h2 : (nodesB L && ok) = true) (h3 : isB n 0 ((L.length : Int) - 1) = false) : chgV L n ok chg = ([], 6) := by unfold chgV; rw [if_neg h, if_neg (by rw [h2]; decide), if_pos h3]
theorem chgV_at {L : List D_Node} {m : Nat} {ok : Bool} {chg : D_Node → Int × D_Node} {x : D_Node} (h : ¬ 400 < L.length) (h2 : (nodesB L && ok) = true) (hx : L[m]? = some x) : chgV L m ok chg = if (chg x).1 = 0 then (L.set m (chg x).2, 0) else ([], (chg x).1) := by
  have hm := el_lt hx
  have h3 : isB (m : Int) 0 ((L.length : Int) - 1) = true := (isB_iff _ _ _).2 ⟨by omega, by omega⟩
  unfold chgV
  rw [if_neg h, if_neg (by rw [h2]; decide), if_neg (by rw [h3]; decide), Int.toNat_natCast, hx]
end Go.Proofs.Ytfciojkibklkfaa.RepC
end
section
namespace Go.Proofs.Ytfciojkibklkfaa.RepC
open Go.RowKit RowC ValC
set_option linter.unusedVariables false
set_option linter.unusedSimpArgs false
theorem mmk_Span {k : Int} : R_Span.mm (k, k + 1) k (k + 1 + 1) := by
  dsimp only [R_Span, Pr, I, atom, Sl]
  exact ⟨k + 1, ⟨by omega, by omega⟩, ⟨by omega, by omega⟩⟩
theorem mme_Span {k k' : Int} {x0 : Int} {x1 : Int} (h : R_Span.mm (x0, x1) k k') : x0 = k ∧ x1 = k + 1 ∧ k' = k + 1 + 1 := by
  dsimp only [R_Span, Pr, I, atom, Sl] at h
  obtain ⟨z1, h1, g1⟩ := h
  obtain ⟨e0, f0⟩ := h1
  have e0 : x0 = _ := e0
  obtain ⟨e1, f1⟩ := g1
  have e1 : x1 = _ := e1
  exact ⟨by omega, by omega, by omega⟩
theorem R_Span_mn : Mn R_Span := (Pr_mn I_mn I_mn)
theorem mmk_Node {k kk0 : Int} {L0 : List (D_Span)} (m_L0 : mmL R_Span L0 (k + 1) kk0) : R_Node.mm (k, L0) k (kk0) := by
  dsimp only [R_Node, Pr, I, atom, Sl]
  exact ⟨k + 1, ⟨by omega, by omega⟩, m_L0⟩
theorem mme_Node {k k' : Int} {x0 : Int} {L0 : List (D_Span)} (h : R_Node.mm (x0, L0) k k') : ∃ kk0, x0 = k ∧ mmL R_Span L0 (k + 1) kk0 ∧ k' = kk0 := by
  dsimp only [R_Node, Pr, I, atom, Sl] at h
  obtain ⟨z1, h1, g1⟩ := h
  obtain ⟨e0, f0⟩ := h1
  have e0 : x0 = _ := e0
  have m_L0 : mmL R_Span L0 _ _ := g1
  exact ⟨_, by omega, cast_mm m_L0 (by omega) rfl, by omega⟩
theorem R_Node_mn : Mn R_Node := (Pr_mn I_mn (Sl_mn R_Span_mn))
theorem sizm_SpanS : (R_Span).size = 2 := rfl
set_option maxRecDepth 100000 in
set_option maxHeartbeats 3200000 in
theorem mark_SpanS {L : List (D_Span)} {a : Option Addr} {cap : Nat} {W : World} {S : Nat → Prop} {k : Int} (h0 : 0 ≤ k) (h1 : k + (sumL (R_Span).cm L : Nat) ≤ 4611686018427387904) (hS : ∀ i, S i → i < W.heap.size) (h : OwSl R_Span W S L a cap) : Calls Try.prog 82 #[.slice a L.length cap, .int .i64 k] W (MarkR R_Span S L a cap k W) := by
  have hcap := h.1
  have hmax := h.2.1
  have hn : L.length ≤ 9223372036854775807 := by have h2 := h.2.1; unfold maxLen at h2; omega
  have H := Lib.hid h
  have HCAP := Lib.hid hcap
  have HMAX := Lib.hid hmax
  clear h hcap hmax
  rcases Nat.eq_zero_or_pos L.length with hz | hpos
  · have HR := Lib.hid (MarkR.none_ (k := k) H.out hz)
    have HZ := Lib.hid hz
    rw [hz]
    clear hz
    go_enter Try.func82, Try.ntmps82
    go_wp2
    go_loopw [5, 1] (fun i q wr => i = .int .i64 0 ∧ q = .int .i64 k ∧ wr = W) (fun i _ _ => 0)
    case atStart => exact ⟨rfl, rfl, rfl⟩
    case round =>
      obtain ⟨rfl, rfl, rfl⟩ := hrel
      go_wp2
      go_ret
      exact HR.out
  · obtain ⟨g, Sf, rfl, hrow⟩ := H.out.row hpos
    have HM := Lib.hid (Mkd.start (k := k) hrow)
    clear hrow
    go_enter Try.func82, Try.ntmps82
    go_wp2
    go_loopw [5, 1] (fun i q wr => ∃ j : Nat, j ≤ L.length ∧ i = .int .i64 j ∧ ∃ (M : List (D_Span)) (z : Int), q = .int .i64 z ∧ Mkd R_Span W wr S L g Sf k z j M) (fun i _ _ => L.length - (intOf i).toNat)
    case atStart => exact ⟨0, Nat.zero_le _, rfl, _, _, rfl, HM.out⟩
    case round =>
      obtain ⟨j, hj, rfl, M, z, rfl, hM⟩ := hrel
      have HM2 := Lib.hid hM
      have hSw : ∀ i, S i → i < wr.heap.size := fun i hi => Nat.lt_of_lt_of_le (hS i hi) hM.off.size
      have HSW := Lib.hid hSw
      by_cases hlt : j < L.length
      · obtain ⟨⟨x0, x1⟩, hx⟩ := el_some hlt
        have HX := Lib.hid hx
        have hcm := sumL_take (R_Span).cm hx
        have hle := sumL_take_le (R_Span).cm L (j + 1)
        have hnum := hM.num
        obtain ⟨us, hu, hr⟩ := hM.el hx
        obtain rfl := ow0_Span hr
        have hgl : g < wr.heap.size := hSw g hM.row.own
        have hi0 : (0 : Int) ≤ (j : Int) := Int.natCast_nonneg _
        have hi1 : (j : Int) < (L.length : Int) := by omega
        have hz0 : 0 ≤ z := by omega
        have e0 : wr.cell? ⟨g, j * 2, none⟩ = some (.int .i64 x0) := by simpa [sizm_SpanS, Nat.add_assoc] using hu 0 _ rfl
        have e1 : wr.cell? ⟨g, j * 2 + 1, none⟩ = some (.int .i64 x1) := by simpa [sizm_SpanS, Nat.add_assoc] using hu 1 _ rfl
        have s0 := hM.row.soft (j * 2)
        have s1 := hM.row.soft (j * 2 + 1)
        have hcx : R_Span.cm (x0, x1) = 2 := by first | (simp only [R_Span, Pr, I, atom, Sl]; done) | (simp only [R_Span, Pr, I, atom, Sl]; omega)
        rw [hcm, hcx] at hle
        have hb1 : z + ((2 : Nat) : Int) ≤ 4611686018427387904 := by omega
        have hne : ¬ Sf j g := fun hg => (HM2.out.row.sub j g hg).2 rfl
        have HU0 := Lib.hid (Upd.refl wr g (j * 2) ((j + 1) * 2) (Sf j))
        have HF0 := Lib.hid (Off.refl S wr)
        clear hM hSw hx hu hcm hle hnum
        have hc := putCells_cells g [.int .i64 (z), .int .i64 (z + 1)] wr (j * 2) (fun p hp => by
          match p, hp with
          | 0, _ => exact ⟨_, by simpa [Nat.add_assoc] using e0⟩
          | 1, _ => exact ⟨_, by simpa [Nat.add_assoc] using e1⟩
          | _ + 2, hp => first | (simp at hp; done) | (simp at hp; omega))
        have d0 : (putCells wr g (j * 2) [.int .i64 (z), .int .i64 (z + 1)]).cell? ⟨g, j * 2, none⟩ = some (.int .i64 (z)) := by simpa [Nat.add_assoc] using hc 0 _ rfl
        have d1 : (putCells wr g (j * 2) [.int .i64 (z), .int .i64 (z + 1)]).cell? ⟨g, j * 2 + 1, none⟩ = some (.int .i64 (z + 1)) := by simpa [Nat.add_assoc] using hc 1 _ rfl
        have t0 : (putCells wr g (j * 2) [.int .i64 (z), .int .i64 (z + 1)]).frozen? ⟨g, j * 2, none⟩ = false := (putCells_frozen g _ _ wr _).trans s0
        have t1 : (putCells wr g (j * 2) [.int .i64 (z), .int .i64 (z + 1)]).frozen? ⟨g, j * 2 + 1, none⟩ = false := (putCells_frozen g _ _ wr _).trans s1
        have HU1 := Lib.hid (HU0.out.trans (Upd.put wr (Sf j) (g := g) (o := j * 2) (cs := [.int .i64 (z), .int .i64 (z + 1)]) ⟨by omega, by first | (simp; done) | (simp; omega)⟩))
        have HF1 := Lib.hid (HF0.out.trans ((putCells_off g [.int .i64 (z), .int .i64 (z + 1)] wr (j * 2)).more (fun x e => by rw [e]; exact HM2.out.row.own)))
        clear hc
        have hcf : CellsAt (putCells wr g (j * 2) [.int .i64 (z), .int .i64 (z + 1)]) g (j * 2) [.int .i64 (z), .int .i64 (z + 1)] := CellsAt.cons.2 ⟨d0, CellsAt.cons.2 ⟨d1, CellsAt.nil⟩⟩
        have HSTEP := Lib.hid (HM2.out.step R_Span_ok (w' := (putCells wr g (j * 2) [.int .i64 (z), .int .i64 (z + 1)])) (y := (z, z + 1)) (q' := z + 1 + 1) HSW.out HX.out HU1.out HF1.out hcf (mkow_Span) (mmk_Span) (by rw [hcx]; omega))
        clear d0 t0 d1 t1
        have hzb : 0 ≤ z + 1 + 1 ∧ z + 1 + 1 ≤ 4611686018427387904 := by omega
        clear hcf hcx
        go_wp2
        go_roundw
        case rel => exact ⟨j + 1, by omega, by go_num, _, _, rfl, by first | exact HSTEP.out | simpa [putCells, Nat.add_assoc, Int.add_assoc] using HSTEP.out⟩
        case measure => simp [intOf]; omega
      · obtain rfl : j = L.length := by omega
        have HR := Lib.hid (HM2.out.done HCAP.out HMAX.out)
        clear hM hSw
        go_wp2
        go_ret
        exact HR.out
theorem sizm_NodeS : (R_Node).size = 2 := rfl
set_option maxRecDepth 100000 in
set_option maxHeartbeats 3200000 in
theorem mark_NodeS {L : List (D_Node)} {a : Option Addr} {cap : Nat} {W : World} {S : Nat → Prop} {k : Int} (h0 : 0 ≤ k) (h1 : k + (sumL (R_Node).cm L : Nat) ≤ 4611686018427387904) (hS : ∀ i, S i → i < W.heap.size) (h : OwSl R_Node W S L a cap) : Calls Try.prog 32 #[.slice a L.length cap, .int .i64 k] W (MarkR R_Node S L a cap k W) := by
  have hcap := h.1
  have hmax := h.2.1
  have hn : L.length ≤ 9223372036854775807 := by have h2 := h.2.1; unfold maxLen at h2; omega
  have H := Lib.hid h
  have HCAP := Lib.hid hcap
  have HMAX := Lib.hid hmax
  clear h hcap hmax
  rcases Nat.eq_zero_or_pos L.length with hz | hpos
  · have HR := Lib.hid (MarkR.none_ (k := k) H.out hz)
    have HZ := Lib.hid hz
    rw [hz]
    clear hz
    go_enter Try.func32, Try.ntmps32
    go_wp2
    go_loopw [5, 1] (fun i q wr => i = .int .i64 0 ∧ q = .int .i64 k ∧ wr = W) (fun i _ _ => 0)
    case atStart => exact ⟨rfl, rfl, rfl⟩
    case round =>
      obtain ⟨rfl, rfl, rfl⟩ := hrel
      go_wp2
      go_ret
      exact HR.out
  · obtain ⟨g, Sf, rfl, hrow⟩ := H.out.row hpos
    have HM := Lib.hid (Mkd.start (k := k) hrow)
    clear hrow
    go_enter Try.func32, Try.ntmps32
    go_wp2
    go_loopw [5, 1] (fun i q wr => ∃ j : Nat, j ≤ L.length ∧ i = .int .i64 j ∧ ∃ (M : List (D_Node)) (z : Int), q = .int .i64 z ∧ Mkd R_Node W wr S L g Sf k z j M) (fun i _ _ => L.length - (intOf i).toNat)
    case atStart => exact ⟨0, Nat.zero_le _, rfl, _, _, rfl, HM.out⟩
    case round =>
      obtain ⟨j, hj, rfl, M, z, rfl, hM⟩ := hrel
      have HM2 := Lib.hid hM
      have hSw : ∀ i, S i → i < wr.heap.size := fun i hi => Nat.lt_of_lt_of_le (hS i hi) hM.off.size
      have HSW := Lib.hid hSw
      by_cases hlt : j < L.length
      · obtain ⟨⟨x0, L0⟩, hx⟩ := el_some hlt
        have HX := Lib.hid hx
        have hcm := sumL_take (R_Node).cm hx
        have hle := sumL_take_le (R_Node).cm L (j + 1)
        have hnum := hM.num
        obtain ⟨us, hu, hr⟩ := hM.el hx
        obtain ⟨a0, c0, T0, rfl, ts0, k_L0⟩ := ow_Node hr
        have hgl : g < wr.heap.size := hSw g hM.row.own
        have hi0 : (0 : Int) ≤ (j : Int) := Int.natCast_nonneg _
        have hi1 : (j : Int) < (L.length : Int) := by omega
        have hz0 : 0 ≤ z := by omega
        have e0 : wr.cell? ⟨g, j * 2, none⟩ = some (.int .i64 x0) := by simpa [sizm_NodeS, Nat.add_assoc] using hu 0 _ rfl
        have e1 : wr.cell? ⟨g, j * 2 + 1, none⟩ = some (.slice a0 L0.length c0) := by simpa [sizm_NodeS, Nat.add_assoc] using hu 1 _ rfl
        have s0 := hM.row.soft (j * 2)
        have s1 := hM.row.soft (j * 2 + 1)
        have hcx : R_Node.cm (x0, L0) = 1 + sumL (R_Span).cm L0 := by first | (simp only [R_Node, Pr, I, atom, Sl]; done) | (simp only [R_Node, Pr, I, atom, Sl]; omega)
        rw [hcm, hcx] at hle
        have hb1 : z + ((1 + sumL (R_Span).cm L0 : Nat) : Int) ≤ 4611686018427387904 := by omega
        have hne : ¬ Sf j g := fun hg => (HM2.out.row.sub j g hg).2 rfl
        have K_L0 := Lib.hid k_L0
        have TS0 := Lib.hid ts0
        have HU0 := Lib.hid (Upd.refl wr g (j * 2) ((j + 1) * 2) (Sf j))
        have HF0 := Lib.hid (Off.refl S wr)
        clear hM hSw hx hu hcm hle hnum k_L0 ts0
        have hc := putCells_cells g [.int .i64 (z)] wr (j * 2) (fun p hp => by
          match p, hp with
          | 0, _ => exact ⟨_, by simpa [Nat.add_assoc] using e0⟩
          | _ + 1, hp => first | (simp at hp; done) | (simp at hp; omega))
        have d0 : (putCells wr g (j * 2) [.int .i64 (z)]).cell? ⟨g, j * 2, none⟩ = some (.int .i64 (z)) := by simpa [Nat.add_assoc] using hc 0 _ rfl
        have d1 : (putCells wr g (j * 2) [.int .i64 (z)]).cell? ⟨g, j * 2 + 1, none⟩ = some (.slice a0 L0.length c0) := (putCells_other g _ wr _ (by first | (simp; done) | (simp; omega))).trans e1
        have t0 : (putCells wr g (j * 2) [.int .i64 (z)]).frozen? ⟨g, j * 2, none⟩ = false := (putCells_frozen g _ _ wr _).trans s0
        have t1 : (putCells wr g (j * 2) [.int .i64 (z)]).frozen? ⟨g, j * 2 + 1, none⟩ = false := (putCells_frozen g _ _ wr _).trans s1
        have HU1 := Lib.hid (HU0.out.trans (Upd.put wr (Sf j) (g := g) (o := j * 2) (cs := [.int .i64 (z)]) ⟨by omega, by first | (simp; done) | (simp; omega)⟩))
        have HF1 := Lib.hid (HF0.out.trans ((putCells_off g [.int .i64 (z)] wr (j * 2)).more (fun x e => by rw [e]; exact HM2.out.row.own)))
        have K_L0 := Lib.hid (OwSl.keep R_Span_ok (W' := (putCells wr g (j * 2) [.int .i64 (z)])) K_L0.out (fun q hq => putCells_block g (HM2.out.row.sub j q (TS0.out q hq)).2 _ _ _))
        clear hc
        have hbz : 0 ≤ z + 1 ∧ z + 1 + (sumL (R_Span).cm L0 : Nat) ≤ 4611686018427387904 := by omega
        have D0 := Lib.hid d0
        have F0 := Lib.hid t0
        have D1 := Lib.hid d1
        have F1 := Lib.hid t1
        clear d0 t0 d1 t1
        go_wp2_with fail
        have HSi := Lib.hid (fun q (hq : T0 q) => Nat.lt_of_lt_of_le (HSW.out q (HM2.out.row.sub j q (TS0.out q hq)).1) HF1.out.size)
        refine (mark_SpanS (W := (putCells wr g (j * 2) [.int .i64 (z)])) hbz.1 hbz.2 HSi.out K_L0.out).mono ?_
        intro e w1 h
        obtain ⟨y0, z0, rfl, hyl, hmm, hzz, how, hoff⟩ := markR_elim h
        have hgg : g < (putCells wr g (j * 2) [.int .i64 (z)]).heap.size := Nat.lt_of_lt_of_le hgl HF1.out.size
        have hnT : ¬ T0 g := fun hg => hne (TS0.out g hg)
        have n0 : w1.cell? ⟨g, j * 2, none⟩ = some (.int .i64 (z)) := (World.cell?_of_block (a := ⟨g, j * 2, none⟩) (hoff.block g hgg hnT)).trans D0.out
        have n1 : w1.cell? ⟨g, j * 2 + 1, none⟩ = some (.slice a0 L0.length c0) := (World.cell?_of_block (a := ⟨g, j * 2 + 1, none⟩) (hoff.block g hgg hnT)).trans D1.out
        have m0 : w1.frozen? ⟨g, j * 2, none⟩ = false := (World.frozen?_of_block (a := ⟨g, j * 2, none⟩) (hoff.block g hgg hnT)).trans F0.out
        have m1 : w1.frozen? ⟨g, j * 2 + 1, none⟩ = false := (World.frozen?_of_block (a := ⟨g, j * 2 + 1, none⟩) (hoff.block g hgg hnT)).trans F1.out
        have HU2 := Lib.hid (HU1.out.trans (Upd.off (hoff.more TS0.out) hgg hne))
        have HF2 := Lib.hid (HF1.out.trans (hoff.more (fun q hq => (HM2.out.row.sub j q (TS0.out q hq)).1)))
        have K_L0 := Lib.hid how
        have HMM0 := Lib.hid hmm
        have HYL0 := Lib.hid hyl
        have HZZ0 := Lib.hid hzz
        have hzn0 : 0 ≤ z0 ∧ z0 ≤ 4611686018427387904 := by omega
        clear h hyl hmm how hoff hgg hnT hbz hzz HSi D0 F0 D1 F1
        have e0 := n0
        have s0 := m0
        have e1 := n1
        have s1 := m1
        clear n0 m0 n1 m1
        have hcf : CellsAt w1 g (j * 2) [.int .i64 (z), .slice a0 y0.length c0] := CellsAt.cons.2 ⟨e0, CellsAt.cons.2 ⟨by rw [HYL0.out]; exact e1, CellsAt.nil⟩⟩
        have HSTEP := Lib.hid (HM2.out.step R_Node_ok (w' := w1) (y := (z, y0)) (q' := z0) HSW.out HX.out HU2.out HF2.out hcf (mkow_Node TS0.out K_L0.out) (mmk_Node HMM0.out) (by rw [hcx]; have q0 := HZZ0.out; omega))
        have hzb : 0 ≤ z0 ∧ z0 ≤ 4611686018427387904 := by have q0 := HZZ0.out; omega
        clear hcf hcx
        go_wp2
        go_roundw
        case rel => exact ⟨j + 1, by omega, by go_num, _, _, rfl, by first | exact HSTEP.out | simpa [putCells, Nat.add_assoc, Int.add_assoc] using HSTEP.out⟩
        case measure => simp [intOf]; omega
      · obtain rfl : j = L.length := by omega
        have HR := Lib.hid (HM2.out.done HCAP.out HMAX.out)
        clear hM hSw
        go_wp2
        go_ret
        exact HR.out
def MarkV_NodesOut (L0 : List (D_Node)) (x1 : Int) (a0 : Option Addr) (c0 : Nat) (T0 : Nat → Prop) (k : Int) (W : World) (e : Ending) (w' : World) : Prop := ∃ z0 : Int, ∃ (y0 : List (D_Node)), e = .returned (.int .i64 z0) ∧ (y0.length = L0.length ∧ mmL R_Node y0 k z0 ∧ z0 = k + (sumL (R_Node).cm L0 : Nat) ∧ OwSl R_Node w' T0 y0 a0 c0) ∧ Off (fun q => T0 q) W w'
set_option maxRecDepth 100000 in
set_option maxHeartbeats 1600000 in
theorem mark_NodesOut {L0 : List (D_Node)} {x1 : Int} {a0 : Option Addr} {c0 : Nat} {W : World} {T0 : Nat → Prop} {k : Int} (h0 : 0 ≤ k) (h1 : k + (sumL (R_Node).cm L0 : Nat) ≤ 4611686018427387904) (hS0 : ∀ q, T0 q → q < W.heap.size) (h_L0 : OwSl R_Node W T0 L0 a0 c0) : Calls Try.prog 35 #[.agg #[.slice a0 L0.length c0, .int .i64 x1], .int .i64 k] W (MarkV_NodesOut L0 x1 a0 c0 T0 k W) := by
  have HOFF0 := Lib.hid (show Off (fun q => T0 q) W (W.alloc (.cells #[.slice a0 L0.length c0, .int .i64 x1] 29)) from (Off.refl _ _).alloc _)
  have hP := Blk.new W 29 #[.slice a0 L0.length c0, .int .i64 x1]
  have HP0 := Lib.hid hP
  have hz0 : W.heap.size < (W.alloc (.cells #[.slice a0 L0.length c0, .int .i64 x1] 29)).heap.size := by simp
  clear hP
  have K_L0 := Lib.hid (OwSl.keep R_Node_ok (W' := W.alloc (.cells #[.slice a0 L0.length c0, .int .i64 x1] 29)) h_L0 (fun q hq => Below.heap_alloc _ _ _ (hS0 q hq)))
  have HS0 := Lib.hid hS0
  clear h_L0 hS0 
  go_enter Try.func35, Try.ntmps35
  have hbz : 0 ≤ k ∧ k + (sumL (R_Node).cm L0 : Nat) ≤ 4611686018427387904 := by omega
  go_wp2_with fail
  refine (mark_NodeS (W := W.alloc (.cells #[.slice a0 L0.length c0, .int .i64 x1] 29)) hbz.1 hbz.2 (fun q hq => Nat.lt_trans (HS0.out q hq) hz0) K_L0.out).mono ?_
  intro e w1 h
  obtain ⟨y0, z0, rfl, hyl, hmm, hzz, how, hoff⟩ := markR_elim h
  have HP1 := Lib.hid (Blk.off HP0.out hoff hz0 (fun hg => Nat.lt_irrefl _ (HS0.out _ hg)))
  have HOFF1 := Lib.hid (HOFF0.out.trans (hoff.more (fun q hq => hq)))
  have hz1 : W.heap.size < w1.heap.size := Nat.lt_of_lt_of_le hz0 hoff.size
  have K_L0 := Lib.hid how
  have HMM0 := Lib.hid hmm
  have HYL0 := Lib.hid hyl
  have HZZ0 := Lib.hid hzz
  have hzn0 : 0 ≤ z0 ∧ z0 ≤ 4611686018427387904 := by omega
  clear h hyl hmm how hoff hzz hbz
  have p1_0 := HP1.out.at_ 0 rfl
  go_wp2
  go_ret
  exact ⟨z0, y0, rfl, ⟨HYL0.out, HMM0.out, HZZ0.out, K_L0.out⟩, HOFF1.out⟩
theorem sizh_SpanS : (R_Span).size = 2 := rfl
set_option maxRecDepth 100000 in
set_option maxHeartbeats 1600000 in
theorem held_SpanS {L : List (D_Span)} {a : Option Addr} {cap : Nat} {W : World} {k k' : Int} (h0 : 0 ≤ k) (h1 : k' ≤ 4611686018427387904) (hm : mmL R_Span L k k') (h : RdSl R_Span W W.heap.size L a cap) : Calls Try.prog 83 #[.slice a L.length cap, .int .i64 k] W (HeldC k' W) := by
  have hn : L.length ≤ 9223372036854775807 := by have h1 := h.1; have h2 := h.2.1; unfold maxLen at h2; omega
  have H := Lib.hid h
  have HM := Lib.hid hm
  clear h hm
  go_enter Try.func83, Try.ntmps83
  go_wp2
  go_loopw [5, 1] (fun i q wr => ∃ j : Nat, j ≤ L.length ∧ i = .int .i64 j ∧ (∃ z : Int, q = .int .i64 z ∧ 0 ≤ z ∧ mmL R_Span (L.drop j) z k') ∧ Below W.heap.size W wr) (fun i _ _ => L.length - (intOf i).toNat)
  case atStart => exact ⟨0, Nat.zero_le _, rfl, ⟨k, rfl, h0, HM.out⟩, Below.refl _ _⟩
  case round =>
    obtain ⟨j, hj, rfl, ⟨z, rfl, hz, hmz⟩, hB⟩ := hrel
    have HB := Lib.hid hB
    have hsz := hB.size
    by_cases hlt : j < L.length
    · obtain ⟨⟨x0, x1⟩, hx⟩ := el_some hlt
      obtain ⟨k1, hxm, hmn⟩ := mmL_drop hx hmz
      have hzb := mmL_le R_Span_mn hmn
      have hxb := R_Span_mn _ _ _ hxm
      obtain ⟨g, o, us, rfl, hg, hu, hr⟩ := (H.out.below R_Span_ok hB).at_ hx
      have HMN := Lib.hid hmn
      have hi0 : (0 : Int) ≤ (j : Int) := Int.natCast_nonneg _
      have hi1 : (j : Int) < (L.length : Int) := by omega
      obtain rfl := rd_Span hr
      obtain ⟨rfl, rfl, hk1⟩ := mme_Span hxm
      have e0 := cells_at hu 0 rfl
      have e1 := cells_at hu 1 rfl
      simp only [sizh_SpanS] at e0 e1
      simp only [← Nat.add_assoc, Nat.add_zero] at e0 e1
      have hfin : k1 ≤ 4611686018427387904 := by omega
      have HK1 := Lib.hid hk1
      clear hB hx hu hmz hmn hxm
      have HB2 := Lib.hid HB.out
      go_wp2
      go_roundw
      case rel => exact ⟨j + 1, by omega, by go_num, ⟨_, rfl, by omega, by rw [← HK1.out]; exact HMN.out⟩, HB2.out⟩
      case measure => simp [intOf]; omega
    · obtain rfl : j = L.length := by omega
      have HE := Lib.hid (mmL_end hmz)
      clear hmz hB
      go_wp2
      go_ret
      exact ⟨by rw [HE.out]; rfl, HB.out⟩
theorem sizh_NodeS : (R_Node).size = 2 := rfl
set_option maxRecDepth 100000 in
set_option maxHeartbeats 1600000 in
theorem held_NodeS {L : List (D_Node)} {a : Option Addr} {cap : Nat} {W : World} {k k' : Int} (h0 : 0 ≤ k) (h1 : k' ≤ 4611686018427387904) (hm : mmL R_Node L k k') (h : RdSl R_Node W W.heap.size L a cap) : Calls Try.prog 33 #[.slice a L.length cap, .int .i64 k] W (HeldC k' W) := by
  have hn : L.length ≤ 9223372036854775807 := by have h1 := h.1; have h2 := h.2.1; unfold maxLen at h2; omega
  have H := Lib.hid h
  have HM := Lib.hid hm
  clear h hm
  go_enter Try.func33, Try.ntmps33
  go_wp2
  go_loopw [5, 1] (fun i q wr => ∃ j : Nat, j ≤ L.length ∧ i = .int .i64 j ∧ (∃ z : Int, q = .int .i64 z ∧ 0 ≤ z ∧ mmL R_Node (L.drop j) z k') ∧ Below W.heap.size W wr) (fun i _ _ => L.length - (intOf i).toNat)
  case atStart => exact ⟨0, Nat.zero_le _, rfl, ⟨k, rfl, h0, HM.out⟩, Below.refl _ _⟩
  case round =>
    obtain ⟨j, hj, rfl, ⟨z, rfl, hz, hmz⟩, hB⟩ := hrel
    have HB := Lib.hid hB
    have hsz := hB.size
    by_cases hlt : j < L.length
    · obtain ⟨⟨x0, L0⟩, hx⟩ := el_some hlt
      obtain ⟨k1, hxm, hmn⟩ := mmL_drop hx hmz
      have hzb := mmL_le R_Node_mn hmn
      have hxb := R_Node_mn _ _ _ hxm
      obtain ⟨g, o, us, rfl, hg, hu, hr⟩ := (H.out.below R_Node_ok hB).at_ hx
      have HMN := Lib.hid hmn
      have hi0 : (0 : Int) ≤ (j : Int) := Int.natCast_nonneg _
      have hi1 : (j : Int) < (L.length : Int) := by omega
      obtain ⟨a0, c0, rfl, k_L0⟩ := rd_Node hr
      obtain ⟨z0, rfl, m_0, hk1⟩ := mme_Node hxm
      have e0 := cells_at hu 0 rfl
      have e1 := cells_at hu 1 rfl
      simp only [sizh_NodeS] at e0 e1
      simp only [← Nat.add_assoc, Nat.add_zero] at e0 e1
      have HXM0 := Lib.hid m_0
      have hle0 := mmL_le R_Span_mn m_0
      have K_L0 := Lib.hid (k_L0.more R_Span_ok hsz)
      have hfin : k1 ≤ 4611686018427387904 := by omega
      have HK1 := Lib.hid hk1
      clear hB hx hu hmz hmn hxm k_L0 m_0
      go_wp2_with fail
      refine (held_SpanS (k := x0 + 1) (k' := z0) (by omega) (by omega) HXM0.out K_L0.out).mono ?_
      intro e w1 h
      obtain ⟨rfl, hb⟩ := heldC_elim h
      have HBc0 := Lib.hid hb
      have hpos0 : 0 ≤ z0 := by omega
      clear h hb
      have HB2 := Lib.hid (HB.out.trans (HBc0.out.mono hsz))
      go_wp2
      go_roundw
      case rel => exact ⟨j + 1, by omega, by go_num, ⟨_, rfl, by omega, by rw [← HK1.out]; exact HMN.out⟩, HB2.out⟩
      case measure => simp [intOf]; omega
    · obtain rfl : j = L.length := by omega
      have HE := Lib.hid (mmL_end hmz)
      clear hmz hB
      go_wp2
      go_ret
      exact ⟨by rw [HE.out]; rfl, HB.out⟩
set_option maxRecDepth 100000 in
set_option maxHeartbeats 1600000 in
theorem held_NodesOut {L0 : List (D_Node)} {x1 : Int} {a0 : Option Addr} {c0 : Nat} {W : World} {k : Int} {z0 : Int} (h0 : 0 ≤ k) (h1 : z0 ≤ 4611686018427387904) (hm0 : mmL R_Node L0 k z0) (h_L0 : RdSl R_Node W W.heap.size L0 a0 c0) : Calls Try.prog 36 #[.agg #[.slice a0 L0.length c0, .int .i64 x1], .int .i64 k] W (HeldC z0 W) := by
  have H_L0 := Lib.hid h_L0
  have HM0 := Lib.hid hm0
  have hl0 := mmL_le R_Node_mn hm0
  clear h_L0 hm0
  have HB0 := Lib.hid (show Below W.heap.size W (W.alloc (.cells #[.slice a0 L0.length c0, .int .i64 x1] 29)) from (Below.refl _ _).alloc (Nat.le_refl _) _)
  have hP := Blk.new W 29 #[.slice a0 L0.length c0, .int .i64 x1]
  have HP0 := Lib.hid hP
  have hz0 : W.heap.size ≤ (W.alloc (.cells #[.slice a0 L0.length c0, .int .i64 x1] 29)).heap.size := HB0.out.size
  clear hP
  go_enter Try.func36, Try.ntmps36
  go_wp2_with fail
  refine (held_NodeS (k := k) (k' := z0) (by omega) (by omega) HM0.out ((H_L0.out.below R_Node_ok HB0.out).more R_Node_ok hz0)).mono ?_
  intro e w1 h
  obtain ⟨rfl, hb⟩ := heldC_elim h
  have HP1 := Lib.hid (HP0.out.call hb)
  have HB1 := Lib.hid (HB0.out.trans (hb.mono hz0))
  have hz1 : W.heap.size ≤ w1.heap.size := HB1.out.size
  clear h hb
  have p1_0 := HP1.out.at_ 0 rfl
  have hpos0 : (0 : Int) ≤ z0 := by omega
  go_wp2
  go_ret
  exact ⟨rfl, HB1.out⟩
end Go.Proofs.Ytfciojkibklkfaa.RepC
end
section
namespace Go.Proofs.Ytfciojkibklkfaa.RepC
open Go.RowKit RowC ValC
set_option linter.unusedVariables false
set_option linter.unusedSimpArgs false
theorem gsz_NodeS {L : List (D_Node)} {v : Value} {W : World} {l : Int} (h0 : 0 ≤ l) (h1 : l ≤ 1048576) (h : (Sl R_Node).rd W W.heap.size L [v]) : Calls Try.prog 27 #[v, .int .i64 l] W (SzC l ((Sl R_Node).sz L) W) := by
  obtain ⟨a, cap, he, k⟩ := h; cases he
  exact sz_NodeS h0 h1 k
theorem gto_NodeS {L : List (D_Node)} {v : Value} {W : World} (hsz : (Sl R_Node).sz L ≤ 1048576) (h : (Sl R_Node).rd W W.heap.size L [v]) : Calls Try.prog 28 #[v] W (NewS R_Node L W) := by
  obtain ⟨a, cap, he, k⟩ := h; cases he
  exact to_NodeS hsz k
theorem geq_NodeS {L : List (D_Node)} {v v' : Value} {W : World} (h : (Sl R_Node).rd W W.heap.size L [v]) (h' : (Sl R_Node).rd W W.heap.size L [v']) : Calls Try.prog 29 #[v, v'] W (IsB true W) := by
  obtain ⟨a, cap, he, k⟩ := h; cases he
  obtain ⟨a', cap', he, k'⟩ := h'; cases he
  exact eq_NodeS k k'
theorem gmark_NodeS {L : List (D_Node)} {v : Value} {W : World} {S : Nat → Prop} {k : Int} (h0 : 0 ≤ k) (h1 : k + ((Sl R_Node).cv L : Nat) ≤ 4611686018427387904) (hS : ∀ q, S q → q < W.heap.size) (h : (Sl R_Node).ow W S L [v]) : Calls Try.prog 32 #[v, .int .i64 k] W (MarkG (Sl R_Node) L [v] S k W) := by
  obtain ⟨a, cap, he, ho⟩ := h; cases he
  refine (mark_NodeS h0 h1 hS ho).mono fun e w' hh => ?_
  obtain ⟨y, z, rfl, hl, hm, hz, ho', hoff⟩ := markR_elim hh
  exact ⟨y, z, rfl, hm, hz, ⟨a, cap, by rw [hl], ho'⟩, hoff⟩
theorem geq_NodesOut {d : D_NodesOut} {cs cs' : List Value} {W : World} (h : R_NodesOut.rd W W.heap.size d cs) (h' : R_NodesOut.rd W W.heap.size d cs') : Calls Try.prog 34 #[.agg cs.toArray, .agg cs'.toArray] W (IsB true W) := by
  obtain ⟨L0, x1⟩ := d
  obtain ⟨a0, c0, rfl, k_L0⟩ := rd_NodesOut h
  obtain ⟨a0', c0', rfl, k'_L0⟩ := rd_NodesOut h'
  exact eq_NodesOut k_L0 k'_L0
theorem owc_NodesOut {W : World} {S : Nat → Prop} {L0 : List (D_Node)} {x1 : Int} {cs : List Value} (h : R_NodesOut.ow W S (L0, x1) cs) : ∃ a0 c0, cs = [.slice a0 L0.length c0, .int .i64 x1] ∧ R_NodesOut.ow W S (L0, x1) [.slice a0 L0.length c0, .int .i64 x1] := by
  have h0 := h
  obtain ⟨a0, c0, T0, rfl, _⟩ := ow_NodesOut h
  exact ⟨a0, c0, rfl, h0⟩
theorem cvd_NodesOut {L0 : List (D_Node)} {x1 : Int} : R_NodesOut.cv (L0, x1) = sumL (R_Node).cm L0 := by
  simp only [R_NodesOut, Pr, Sl, I, Bo, atom]; omega
set_option maxRecDepth 100000 in
theorem gmark_NodesOut {d : D_NodesOut} {cs : List Value} {W : World} {S : Nat → Prop} {k : Int} (h0 : 0 ≤ k) (h1 : k + (R_NodesOut.cv d : Nat) ≤ 4611686018427387904) (hS : ∀ q, S q → q < W.heap.size) (h : R_NodesOut.ow W S d cs) : Calls Try.prog 35 #[.agg cs.toArray, .int .i64 k] W (MarkG R_NodesOut d cs S k W) := by
  obtain ⟨L0, x1⟩ := d
  obtain ⟨a0, c0, T0, rfl, hs0, k_L0⟩ := ow_NodesOut h
  have hcv := cvd_NodesOut (L0 := L0) (x1 := x1)
  refine (mark_NodesOut h0 (by rw [hcv] at h1; omega) (fun q hq => hS q (hs0 q hq)) k_L0).mono fun e w' hh => ?_
  obtain ⟨z0, y0, rfl, ⟨hl0, hm0, hz0, ho0⟩, hoff⟩ := hh
  have hmk := mkow_NodesOut (x1 := x1) hs0 ho0
  simp only [hl0] at hmk
  exact ⟨(y0, x1), _, rfl, ⟨z0, hm0, rfl⟩, by rw [hcv]; omega, hmk, hoff.more fun q hq => by exact hs0 q hq⟩
set_option maxRecDepth 100000 in
theorem gheld_NodesOut {d : D_NodesOut} {cs : List Value} {W : World} {k z : Int} (h0 : 0 ≤ k) (h1 : z ≤ 4611686018427387904) (hm : R_NodesOut.mv d k z) (h : R_NodesOut.rd W W.heap.size d cs) : Calls Try.prog 36 #[.agg cs.toArray, .int .i64 k] W (HeldC z W) := by
  obtain ⟨L0, x1⟩ := d
  obtain ⟨a0, c0, rfl, k_L0⟩ := rd_NodesOut h
  obtain ⟨_, hm0, rfl⟩ := hm
  exact held_NodesOut h0 h1 hm0 k_L0
end Go.Proofs.Ytfciojkibklkfaa.RepC
end
section
namespace Go.Proofs.Ytfciojkibklkfaa.RepC
open Go.RowKit RowC ValC SpanC KeptC
set_option linter.unusedVariables false
set_option linter.unusedSimpArgs false
theorem rd_take {α : Type} {E : Rp α} {W : World} {B : Nat} {L : List α} {a : Option Addr} {c : Nat} (h : RdSl E W B L a c) (n : Nat) : RdSl E W B (L.take n) a c := by
  refine ⟨by have := h.1; rw [List.length_take]; omega, h.2.1, fun hn => ?_⟩
  obtain ⟨g, o, ha, hg, hel⟩ := h.2.2 (by rw [List.length_take] at hn; omega)
  refine ⟨g, o, ha, hg, fun i x hx => ?_⟩
  rw [List.getElem?_take] at hx
  split at hx
  · exact hel i x hx
  · cases hx
theorem rd_drop {α : Type} {E : Rp α} {W : World} {B : Nat} {L : List α} {g o : Nat} {a : Option Addr} {c n : Nat} (h : RdSl E W B L (some ⟨g, o, none⟩) c) (ha : n < L.length → a = some ⟨g, o + n * E.size, none⟩) : RdSl E W B (L.drop n) a (c - n) := by
  refine ⟨by have := h.1; rw [List.length_drop]; omega, Nat.le_trans (Nat.sub_le _ _) h.2.1, fun hn => ?_⟩
  rw [List.length_drop] at hn
  obtain ⟨g', o', e, hg, hel⟩ := h.2.2 (by omega)
  cases e
  refine ⟨g, o + n * E.size, ha (by omega), hg, fun i x hx => ?_⟩
  rw [List.getElem?_drop] at hx
  obtain ⟨us, hu, hr⟩ := hel _ x hx
  refine ⟨us, ?_, hr⟩
  rw [show o + n * E.size + i * E.size = o + (n + i) * E.size by rw [Nat.add_mul]; omega]
  exact hu
theorem rd_parts {w : World} {g : Nat} {Ls : List (List D_Span)} {cs : List Value} (h : Blk w g 39 cs.toArray) (hl : cs.length = Ls.length) (hs : Ls.length ≤ 4096) (hel : ∀ (i : Nat) (M : List D_Span), Ls[i]? = some M → ∃ (a : Option Addr) (c : Nat), cs[i]? = some (Value.slice a M.length c) ∧ RdSl R_Span w w.heap.size M a c) : RdSl (Sl R_Span) w w.heap.size Ls (some ⟨g, 0, none⟩) Ls.length := by
  refine ⟨Nat.le_refl _, by unfold maxLen; omega, fun _ => ⟨g, 0, rfl, h.lt, fun i M hM => ?_⟩⟩
  obtain ⟨a, c, h1, h2⟩ := hel i M hM
  refine ⟨[.slice a M.length c], fun j d hj => ?_, a, c, rfl, h2⟩
  have hj0 : j = 0 := by have := el_lt hj; simp at this; omega
  subst hj0
  simp at hj
  subst hj
  have := h.at_ i (v := Value.slice a M.length c) (by rw [List.getElem?_toArray]; exact h1)
  simpa [show (Sl R_Span).size = 1 from rfl] using this
theorem Row.books2 {wq w3 : World} {S T : Nat → Prop} {Sf : Nat → Nat → Prop} {L : List D_Node} {g k : Nat} {st : Int} {M M' : List D_Span} {a : Option Addr} {c : Nat} (h : Row R_Node wq S L g Sf) (hS : ∀ q, S q → q < wq.heap.size) (hx : L[k]? = some (st, M)) (hb : Below wq.heap.size wq w3) (hO : OwSl R_Span w3 T M' a c) (hT : ∀ q, T q → wq.heap.size ≤ q ∧ q < w3.heap.size) :
    (∃ S' Sf', Row R_Node (w3.setCell ⟨g, k * 2 + 1, none⟩ (.slice a M'.length c)) S' (L.set k (st, M')) g Sf' ∧ ∀ q, S' q → (S q ∨ wq.heap.size ≤ q) ∧ q < (w3.setCell ⟨g, k * 2 + 1, none⟩ (.slice a M'.length c)).heap.size) ∧ Off S wq (w3.setCell ⟨g, k * 2 + 1, none⟩ (.slice a M'.length c)) := by
  obtain ⟨us, hu, hr⟩ := h.el k _ hx
  obtain ⟨ba, bc, T0, rfl, hT0, hM⟩ := ow_Node hr
  rw [size_NodeS] at hu
  have hgS := hS g h.own
  have hsz := hb.size
  have d0 : w3.cell? ⟨g, k * 2, none⟩ = some (.int .i64 st) := (hb.cell (p := ⟨g, k * 2, none⟩) hgS).trans (by simpa using hu 0 _ rfl)
  have d1 : w3.cell? ⟨g, k * 2 + 1, none⟩ = some (.slice ba M.length bc) := (hb.cell (p := ⟨g, k * 2 + 1, none⟩) hgS).trans (hu 1 _ rfl)
  have hset : ∀ q, q ≠ g → (w3.setCell ⟨g, k * 2 + 1, none⟩ (.slice a M'.length c)).heap[q]? = w3.heap[q]? := fun q hq => Below.heap_setCell w3 ⟨g, k * 2 + 1, none⟩ _ q hq
  have hrow := Row.put R_Node_ok (T := T) (x := (st, M')) (us := [.int .i64 st, .slice a M'.length c]) h hS
    (W' := w3.setCell ⟨g, k * 2 + 1, none⟩ (.slice a M'.length c)) (by rw [size_NodeS]; exact (Upd.below hb hgS).trans (Upd.set (lo := k * 2) (hi := (k + 1) * 2) _ _ ⟨by omega, by omega⟩ _)) (fun q hq => (hT q hq).1) (fun j d hd => by
      rw [size_NodeS]
      match j, hd with
      | 0, hd => simp at hd; subst hd; rw [Nat.add_zero, World.cell?_setCell_other _ _ _ _ (fun e => by injection e with _ e2; omega)]; exact d0
      | 1, hd => simp at hd; subst hd; exact World.cell?_setCell_same _ _ _ d1
      | j + 2, hd => simp at hd) (mkow_Node (fun q hq => hq) (hO.keep R_Span_ok fun q hq => hset q (by have := (hT q hq).1; omega)))
  refine ⟨⟨_, _, hrow, fun q hq => ?_⟩, ((Off.refl _ wq).of_below hb).setCell (p := ⟨g, k * 2 + 1, none⟩) h.own _⟩
  rcases hq with hq | hq
  · have := hS q hq
    exact ⟨.inl hq, by simp; omega⟩
  · have := hT q hq
    exact ⟨.inr this.1, by simp; omega⟩
end Go.Proofs.Ytfciojkibklkfaa.RepC
end
section
namespace Go.Proofs.Ytfciojkibklkfaa.RepC
open Go.RowKit RowC ValC SpanC KeptC
set_option linter.unusedVariables false
set_option linter.unusedSimpArgs false
set_option maxRecDepth 100000 in
set_option maxHeartbeats 3200000 in
theorem change_impl2 {F : Nat} {lb : Array Value} {chg : D_Node → Int × D_Node} (eg : ∀ args w, (callFunc F args).run Try.prog w = .ok (.enter F args) w) {L : List D_Node} {n : Int} {ok : Bool} {a : Option Addr} {cap : Nat} {W : World} (h : RdSl R_Node W W.heap.size L a cap) (hF : ok = true → ChgF F lb chg W) :
    Calls Try.prog 49 #[.slice a L.length cap, .int .i64 n, .bool ok, .func (.func F) #[] lb] W (NewV R_NodesOut (chgV L n ok chg) W) := by
  obtain ⟨w0, hw0⟩ : ∃ w, w = W.alloc (.cells #[.slice none 0 0, .int .i64 0] 29) := ⟨_, rfl⟩
  have hb0 : Below W.heap.size W w0 := by rw [hw0]; exact (Below.refl _ _).alloc (Nat.le_refl _) _
  have X0 := Lib.hid (show Blk w0 W.heap.size 29 #[.slice none 0 0, .int .i64 0] from by rw [hw0]; exact Blk.new _ _ _)
  have H0 := Lib.hid (mv_rd R_Node_ok h hb0)
  have HB0 := Lib.hid hb0
  have HF := Lib.hid hF
  have HEG := Lib.hid eg
  have hnn := nd_len h
  have hz0 := hb0.size
  have hs := nodes_impl H0.out
  obtain ⟨z, hz⟩ : ∃ z, nodesB L = z := ⟨_, rfl⟩
  rw [hz] at hs
  have HZ := Lib.hid hz
  clear h hF eg hz hb0
  by_cases h400 : 400 < L.length
  · rw [chgV_size h400]
    have hd : decide ((400 : Int) < (L.length : Int)) = true := decide_eq_true (by omega)
    go_enter Try.func49, Try.ntmps49
    go_wp2
    refine bodyPost_ret (v := .agg #[.slice none 0 0, .int .i64 2]) (by simp [results, Try.results49, go_sem, *]) rfl (out_ill ?_)
    first | exact (Below.refl _ _).alloc (Nat.le_refl _) _ | exact ((Below.refl _ _).alloc (Nat.le_refl _) _).setCell (by first | omega | simp) _
  have hd : decide ((400 : Int) < (L.length : Int)) = false := decide_eq_false (by omega)
  go_enter Try.func49, Try.ntmps49
  go_wp2_with fail
  rw [← hw0]
  clear hw0
  refine hs.mono ?_
  intro e w1 h
  obtain ⟨rfl, hb⟩ := isB_elim h
  have X1 := Lib.hid (X0.out.call hb)
  have H1 := Lib.hid (mv_rd R_Node_ok H0.out hb)
  have HB1 := Lib.hid (HB0.out.trans (hb.mono hz0))
  have q0 := X1.out.at_ 0 rfl
  have q1 := X1.out.at_ 1 rfl
  have f0 := X1.out.soft 0
  have f1 := X1.out.soft 1
  clear h hb hs
  by_cases hzo : (z && ok) = false
  · have HE := Lib.hid (chgV_form (n := n) (chg := chg) h400 (show (nodesB L && ok) = false from by rw [HZ.out]; exact hzo))
    have key : z = false ∨ (z = true ∧ ok = false) := by cases z <;> cases ok <;> simp_all
    clear hzo
    rcases key with rfl | ⟨rfl, rfl⟩
    · go_wp2
      rw [HE.out]
      refine bodyPost_ret (v := .agg #[.slice none 0 0, .int .i64 1]) (by simp [results, Try.results49, go_sem, *]) rfl (out_ill ?_)
      exact (HB1.out.setCell (p := ⟨W.heap.size, 0, none⟩) (Nat.le_refl _) _).setCell (p := ⟨W.heap.size, 1, none⟩) (Nat.le_refl _) _
    · go_wp2
      rw [HE.out]
      refine bodyPost_ret (v := .agg #[.slice none 0 0, .int .i64 1]) (by simp [results, Try.results49, go_sem, *]) rfl (out_ill ?_)
      exact (HB1.out.setCell (p := ⟨W.heap.size, 0, none⟩) (Nat.le_refl _) _).setCell (p := ⟨W.heap.size, 1, none⟩) (Nat.le_refl _) _
  have hzo2 : z = true ∧ ok = true := by cases z <;> cases ok <;> simp_all
  obtain ⟨rfl, rfl⟩ := hzo2
  have HZO := Lib.hid (show (nodesB L && true) = true from by rw [HZ.out]; rfl)
  have hN := nodesB_iff.1 HZ.out
  have hsm := nodesR_small hN
  have hL1 := hN.1.1
  have hL6 := hN.1.2
  have HN := Lib.hid hN
  clear hzo hN
  have hwr : IntKind.i64.wrap ((L.length : Int) - 1) = (L.length : Int) - 1 := IntWalk.i64_in _ (by omega)
  obtain ⟨y, hy⟩ : ∃ y, isB n 0 ((L.length : Int) - 1) = y := ⟨_, rfl⟩
  have hi := fun W => is_impl n 0 ((L.length : Int) - 1) W
  rw [hy] at hi
  have HY := Lib.hid hy
  clear hy
  cases y with
  | false =>
    have HE := Lib.hid (chgV_none (chg := chg) h400 HZO.out HY.out)
    go_wp2_with (go_at_call 67; refine (hi _).mono ?_; rintro e w' ⟨rfl, rfl⟩)
    rw [HE.out]
    refine bodyPost_ret (v := .agg #[.slice none 0 0, .int .i64 6]) (by simp [results, Try.results49, go_sem, *]) rfl (out_ill ?_)
    exact (HB1.out.setCell (p := ⟨W.heap.size, 0, none⟩) (Nat.le_refl _) _).setCell (p := ⟨W.heap.size, 1, none⟩) (Nat.le_refl _) _
  | true =>
    have hnb := (isB_iff _ _ _).1 HY.out
    obtain ⟨m, rfl⟩ : ∃ m : Nat, n = m := ⟨n.toNat, by omega⟩
    have hm : m < L.length := by omega
    obtain ⟨x, hx⟩ := el_some hm
    have HV := Lib.hid (chgV_at (chg := chg) h400 HZO.out hx)
    have HOK := Lib.hid (nodesR_at HN.out hx)
    have HX := Lib.hid hx
    have hi0 : (0 : Int) ≤ (m : Int) := Int.natCast_nonneg _
    have hi1 : (m : Int) < (L.length : Int) := by omega
    clear hx hnb q0 q1 f0 f1
    go_wp2_with (first | (go_at_call 67; refine (hi _).mono ?_; rintro e w' ⟨rfl, rfl⟩) | fail)
    refine (copy_impl hsm.1 (by omega) hsm.2 H1.out).mono ?_
    intro e w2 h
    obtain ⟨a', c', rfl, ho, hb⟩ := newS_elim h
    obtain ⟨g, Sf, rfl, hrow⟩ := ho.row (by omega)
    have hc1 := ho.1
    have hc2 := ho.2.1
    have HB2 := Lib.hid (HB1.out.trans (hb.mono HB1.out.size))
    have X2 := Lib.hid (X1.out.call hb)
    have hsz12 := hb.size
    have hlt1 := X1.out.lt
    have hcl := HF.out (by simp) w2 _ L g m Sf x hrow (fun q hq => hq.2) (fun q hq => Nat.le_trans HB1.out.size hq.1) HB2.out HX.out HOK.out
    have HCL := Lib.hid hcl
    have eg := HEG.out
    clear h ho hb hrow hcl hi hwr
    go_wp2_with fail
    refine HCL.out.mono ?_
    intro e w3 h
    obtain ⟨rfl, hof, hrow⟩ := chgR_elim h
    have hz2 := HB2.out.size
    have hz3 := hof.size
    have hxl := X2.out.lt
    have X3 := Lib.hid (show Blk w3 W.heap.size 29 #[.slice none 0 0, .int .i64 0] from (hof.block W.heap.size hxl (fun h => by have h9 : w1.heap.size ≤ W.heap.size := h.1; omega)).trans X2.out)
    have HB3 := Lib.hid (HB2.out.trans (hof.below hz2 fun q hq => Nat.le_trans HB1.out.size hq.1))
    have HROW := Lib.hid hrow
    have HVV := Lib.hid HV.out
    obtain ⟨c, hc⟩ : ∃ c, (chg x).1 = c := ⟨_, rfl⟩
    have HC := Lib.hid hc
    rw [hc]
    have q0 := X3.out.at_ 0 rfl
    have q1 := X3.out.at_ 1 rfl
    have f0 := X3.out.soft 0
    have f1 := X3.out.soft 1
    clear h hof hrow hc eg
    by_cases hc0 : c = 0
    · have HC0 := Lib.hid hc0
      subst hc0
      go_wp2
      rw [HV.out, if_pos HC.out]
      obtain ⟨S', Sf', hR, hS⟩ := HROW.out HC.out
      refine bodyPost_ret (v := .agg #[.slice (some ⟨g, 0, none⟩) L.length c', .int .i64 0]) (by simp [results, Try.results49, go_sem, *]) rfl ⟨[.slice (some ⟨g, 0, none⟩) (L.set m (chg x).2).length c', .int .i64 0], by rw [List.length_set], ?_, (HB3.out.setCell (p := ⟨W.heap.size, 0, none⟩) (Nat.le_refl _) _).setCell (p := ⟨W.heap.size, 1, none⟩) (Nat.le_refl _) _⟩
      refine mkow_NodesOut (T0 := S') (fun q hq => ?_) ((hR.slice (by rw [List.length_set]; exact hc1) hc2).keep R_Node_ok fun q hq => ?_)
      · obtain ⟨h1, h2⟩ := hS q hq
        refine ⟨?_, by simp; exact h2⟩
        rcases h1 with h1 | h1
        · exact Nat.le_trans HB1.out.size h1.1
        · omega
      · have hq2 : q ≠ W.heap.size := by
          obtain ⟨h1, h2⟩ := hS q hq
          rcases h1 with h1 | h1
          · have h9 : w1.heap.size ≤ q := h1.1; omega
          · omega
        rw [Below.heap_setCell _ ⟨W.heap.size, 1, none⟩ _ q hq2, Below.heap_setCell _ ⟨W.heap.size, 0, none⟩ _ q hq2]
    · have hb : (c != 0) = true := by simp [hc0]
      have HC0 := Lib.hid hc0
      clear hc0
      go_wp2
      rw [HV.out, if_neg (by rw [HC.out]; exact HC0.out), HC.out]
      refine bodyPost_ret (v := .agg #[.slice none 0 0, .int .i64 c]) (by simp [results, Try.results49, go_sem, *]) rfl (out_ill ?_)
      exact (HB3.out.setCell (p := ⟨W.heap.size, 0, none⟩) (Nat.le_refl _) _).setCell (p := ⟨W.heap.size, 1, none⟩) (Nat.le_refl _) _
end Go.Proofs.Ytfciojkibklkfaa.RepC
end
