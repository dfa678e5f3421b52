/- A list of nodes copied, in the program: contracts of slices.Clone and copyNodes. -/
import Derived.Test.YtfciojkibklkfaaNdQ
import Derived.Test.YtfciojkibklkfaaNdC
namespace Go.Proofs.Ytfciojkibklkfaa.RepC
open Go.RowKit RowC ValC SpanC KeptC
set_option linter.unusedVariables false
set_option linter.unusedSimpArgs false

/-- the cells of a list of nodes, in a row -/
theorem node_cells {W : World} {B : Nat} {L : List D_Node} {g o cap : Nat} (h : RdSl R_Node W B L (some ⟨g, o, none⟩) cap) : ∀ q, q ≤ L.length → ∃ cs : List Value, cs.length = q * 2 ∧ CellsAt W g o cs ∧ (∀ u ∈ cs, u.oneCell' = true) ∧
    ∀ i x, i < q → L[i]? = some x → ∃ a c, cs[i * 2]? = some (.int .i64 x.1) ∧ cs[i * 2 + 1]? = some (.slice a x.2.length c) ∧ RdSl R_Span W B x.2 a c := by
  intro q
  induction q with
  | zero => exact fun _ => ⟨[], rfl, CellsAt.nil, fun u hu => by simp at hu, fun i x hi => absurd hi (Nat.not_lt_zero _)⟩
  | succ q ih =>
    intro hq
    obtain ⟨cs, hl, hc, h1, he⟩ := ih (by omega)
    obtain ⟨x, hx⟩ := el_some (show q < L.length by omega)
    obtain ⟨g', o', us, e, _, hu, hr⟩ := h.at_ hx
    cases e
    obtain ⟨st, M⟩ := x
    obtain ⟨a, c, rfl, hM⟩ := rd_Node hr
    rw [size_NodeS] at hu
    refine ⟨cs ++ [.int .i64 st, .slice a M.length c], by simp [hl]; omega, CellsAt.app.2 ⟨hc, by rw [hl]; exact hu⟩, fun u hu => ?_, fun i y hi hy => ?_⟩
    · rcases List.mem_append.1 hu with h | h
      · exact h1 u h
      · simp at h; rcases h with rfl | rfl <;> rfl
    · by_cases e : i = q
      · subst e
        rw [hx] at hy
        cases hy
        refine ⟨a, c, ?_, ?_, hM⟩
        · rw [List.getElem?_append_right (by omega), hl, Nat.sub_self]; rfl
        · rw [List.getElem?_append_right (by omega), hl, show i * 2 + 1 - i * 2 = 1 by omega]; rfl
      · obtain ⟨a', c', h2, h3, h4⟩ := he i y (by omega) hy
        exact ⟨a', c', by rw [List.getElem?_append_left (by omega)]; exact h2, by rw [List.getElem?_append_left (by omega)]; exact h3, h4⟩
def CopR (L : List D_Node) (W : World) (e : Ending) (w' : World) : Prop := ∃ g c, e = .returned (.slice (some ⟨g, 0, none⟩) L.length c) ∧ L.length ≤ c ∧ c ≤ maxLen ∧ CopN W w' L g 0 noSf
theorem copR_elim {L : List D_Node} {W : World} {e : Ending} {w' : World} (h : CopR L W e w') : ∃ g c, e = .returned (.slice (some ⟨g, 0, none⟩) L.length c) ∧ L.length ≤ c ∧ c ≤ maxLen ∧ CopN W w' L g 0 noSf := h
theorem app_cells {W : World} {L : List D_Node} {a : Option Addr} {cap : Nat} (hn : L.length ≤ 4096) (h0 : 0 < L.length) (h : RdSl R_Node W W.heap.size L a cap) :
    ∃ g c w', (Builtin.append_ #[23, 23] 23 #[.slice (some ⟨W.heap.size, 0, none⟩) 0 0, .slice a L.length cap]).run Try.prog (W.alloc (.cells #[] 42)) = .ok (.slice (some ⟨g, 0, none⟩) L.length c) w' ∧ L.length ≤ c ∧ c ≤ maxLen ∧ CopN W w' L g 0 noSf := by
  obtain ⟨i, hi, hz, hs, hby⟩ := infoNode
  have hbel : Below W.heap.size W (W.alloc (.cells #[] 42)) := (Below.refl _ _).alloc (Nat.le_refl _) _
  obtain ⟨g, o, rfl, hg, _⟩ := h.2.2 h0
  obtain ⟨cs, hl, hc, h1, he⟩ := node_cells h L.length (Nat.le_refl _)
  obtain ⟨v', w', hrun, hown, hgr, _, hat⟩ := run_append_own_at (P := Try.prog) (W.alloc (.cells #[] 42)) W.heap.size 23 23 42 i _ 2 32 Try.underlying23 hi hz hs hby rfl (by decide) _ 0 [] (App.made R_Node W 42).own ⟨g, o, none⟩ L.length cap cs hl
    (fun j u hj => by
      have hadd : (⟨g, o, none⟩ : Addr).add j = ⟨g, o + j, none⟩ := by unfold Addr.add; split <;> simp_all
      rw [hadd]
      exact (hbel.cell (p := ⟨g, o + j, none⟩) hg).trans (hc j u hj)) h1 (by unfold maxLen; omega) (by omega) (by simp)
  rw [Nat.zero_add, List.nil_append] at hown
  have hb2 : Below W.heap.size W w' := hbel.trans (by
    refine ⟨hgr.os, hgr.tape, hgr.output, hgr.size, fun k hk => hgr.block k (by simp; omega) (fun e => by cases e; exact Nat.lt_irrefl _ hk)⟩)
  rcases hown.2 with ⟨hn0, hL0⟩ | ⟨g', cap', cur, rfl, hlo, hgg, hnc, hm, hcc, htk⟩
  · omega
  · have hgl : g' < w'.heap.size := (Array.getElem?_eq_some_iff.1 hgg).1
    have hcell : ∀ j u, cs[j]? = some u → w'.cell? ⟨g', j, none⟩ = some u := fun j u hj => by
      rw [← htk, List.getElem?_take] at hj
      split at hj
      · exact (cell_of_row w' g' j cur _ _ hgg).trans (by simpa using hj)
      · cases hj
    refine ⟨g', cap', w', hrun, hnc, hm, ⟨fun i x hx => ?_, fun j => by simp [World.frozen?, hgg], fun _ _ h => h.elim, fun _ _ _ _ h => h.elim, hlo, hgl, hb2⟩⟩
    obtain ⟨a, c, h2, h3, h4⟩ := he i x (el_lt hx) hx
    exact ⟨a, c, hcell _ _ h2, hcell _ _ h3, fun h => absurd h (Nat.not_lt_zero _), fun _ => h4.below R_Span_ok hb2⟩
set_option maxRecDepth 100000 in
set_option maxHeartbeats 1600000 in
theorem cloneN_impl {L : List D_Node} {a : Option Addr} {cap : Nat} {W : World} (hn : L.length ≤ 4096) (h0 : 0 < L.length) (h : RdSl R_Node W W.heap.size L a cap) :
    Calls Try.prog 91 #[.slice a L.length cap] W (CopR L W) := by
  obtain ⟨g, c, w', hrun, h1, h2, h3⟩ := app_cells hn h0 h
  obtain ⟨g0, o0, rfl, _⟩ := h.2.2 h0
  have HRun := Lib.hid hrun
  have HC := Lib.hid h3
  clear h hrun h3
  have hnil : ∀ W, (binOp .eql 23 (.slice (some ⟨g0, o0, none⟩) L.length cap) (.slice none 0 0)).run Try.prog W = .ok (.bool false) W := fun W => Lib.run_eql_slice_nil W _ _ _ _ _ _ _ Try.underlying23
  go_enter Try.func91, Try.ntmps91
  go_wp2_with (at_builtin; refine wpList_app rfl (.tmp 5) (.tmp 6) 23 rfl rfl rfl HRun.out ?_)
  go_ret
  exact ⟨g, c, rfl, h1, h2, HC.out⟩
set_option maxRecDepth 100000 in
set_option maxHeartbeats 3200000 in
theorem copy_impl {L : List D_Node} {a : Option Addr} {cap : Nat} {W : World} (hn : L.length ≤ 4096) (h0 : 0 < L.length) (hM : ∀ x ∈ L, x.2.length ≤ 1048576) (h : RdSl R_Node W W.heap.size L a cap) :
    Calls Try.prog 75 #[.slice a L.length cap] W (NewS R_Node L W) := by
  have hcl := cloneN_impl hn h0 h
  have HS := Lib.hid hM
  clear h hM
  go_enter Try.func75, Try.ntmps75
  go_wp2_with fail
  refine hcl.mono ?_
  intro e w0 h
  obtain ⟨g, c, rfl, hc1, hc2, hC⟩ := copR_elim h
  have HC0 := Lib.hid hC
  clear h hC hcl
  go_wp2
  go_loopw [10] (fun i wr => ∃ k : Nat, k ≤ L.length ∧ i = .int .i64 k ∧ ∃ Sf, Hid (CopN W wr L g k Sf)) (fun i _ => L.length - (intOf i).toNat)
  case atStart => exact ⟨0, Nat.zero_le _, rfl, _, HC0⟩
  case round =>
    obtain ⟨k, hk, rfl, Sf, HC⟩ := hrel
    by_cases hlt : k < L.length
    · obtain ⟨x, hx⟩ := el_some hlt
      have hxl := HS.out x (List.mem_of_getElem? hx)
      have hlt' := HC.out.lt
      obtain ⟨ba, bc, e0, e1, _, hr⟩ := HC.out.el k x hx
      have hr := (hr (Nat.le_refl _)).more R_Span_ok HC.out.below.size
      obtain ⟨st, M⟩ := x
      have hi0 : (0 : Int) ≤ (k : Int) := Int.natCast_nonneg _
      have hi1 : (k : Int) < (L.length : Int) := by omega
      obtain ⟨w1, hw1⟩ : ∃ w, w = wr.alloc (.cells #[.int .i64 st, .slice ba M.length bc] 42) := ⟨_, rfl⟩
      have hb1 : Below wr.heap.size wr w1 := by rw [hw1]; exact (Below.refl _ _).alloc (Nat.le_refl _) _
      have X1 : Blk w1 wr.heap.size 42 #[.int .i64 st, .slice ba M.length bc] := by rw [hw1]; exact Blk.new _ _ _
      have hs1 : w1.heap.size = wr.heap.size + 1 := by rw [hw1]; simp
      obtain ⟨w2, hw2⟩ : ∃ w, w = w1.alloc (.cells #[.slice ba M.length bc] 39) := ⟨_, rfl⟩
      have hb2 : Below w1.heap.size w1 w2 := by rw [hw2]; exact (Below.refl _ _).alloc (Nat.le_refl _) _
      have X2 : Blk w2 w1.heap.size 39 #[.slice ba M.length bc] := by rw [hw2]; exact Blk.new _ _ _
      have hb12 : Below wr.heap.size wr w2 := hb1.trans (hb2.mono (by omega))
      have hbk := books_impl (Ls := [M]) (by simpa using hxl) (rd_oneM X2 (mv_rd R_Span_ok hr hb12))
      rw [show ([M] : List (List D_Span)).flatten = M by simp, hs1] at hbk
      have HBK := Lib.hid hbk
      have HB12 := Lib.hid hb12
      have HX := Lib.hid hx
      have p0 := X1.at_ 0 rfl
      have p1 := X1.at_ 1 rfl
      rw [hw1] at p0 p1
      clear hbk hb1 hb2 hb12 X1 X2 hr hx hs1
      go_wp2_with fail
      rw [← hw1, ← hw2]
      clear p0 p1 hw1 hw2
      refine HBK.out.mono ?_
      intro e w3 h
      obtain ⟨a', c', rfl, ho, hb⟩ := newS_elim h
      have hz2 := HB12.out.size
      have hb3 : Below wr.heap.size wr w3 := HB12.out.trans (hb.mono hz2)
      have hput := HC.out.put HX.out hb3 (ho.more fun q hq => ⟨Nat.le_trans hz2 hq.1, hq.2⟩)
      have HP := Lib.hid hput
      have d1 : w3.cell? ⟨g, k * 2 + 1, none⟩ = some (.slice ba M.length bc) := (hb3.cell (p := ⟨g, k * 2 + 1, none⟩) hlt').trans e1
      have f1 : w3.frozen? ⟨g, k * 2 + 1, none⟩ = false := (hb3.frozen (p := ⟨g, k * 2 + 1, none⟩) hlt').trans (HC.out.soft _)
      clear h ho hb hb3 hput e0 e1
      go_wp2
      go_roundw
      case rel => exact ⟨k + 1, by omega, by go_num, _, HP⟩
      case measure => simp [intOf]; omega
    · have hdl : decide ((k : Int) < (L.length : Int)) = false := decide_eq_false (by omega)
      obtain rfl : k = L.length := by omega
      have HD := Lib.hid HC.out.done
      go_wp2
      go_ret
      exact ⟨_, _, rfl, HD.out.slice hc1 hc2, HC.out.below⟩
end Go.Proofs.Ytfciojkibklkfaa.RepC
