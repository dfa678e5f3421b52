/- A list of nodes copied, in the model: a contract. -/
import Derived.Test.YtfciojkibklkfaaTk
import Derived.Test.YtfciojkibklkfaaTk
import Derived.Test.YtfciojkibklkfaaNARow
import Derived.Test.YtfciojkibklkfaaNdR
namespace Go.Proofs.Ytfciojkibklkfaa.RepC
open Go.RowKit RowC ValC SpanC KeptC
set_option linter.unusedVariables false
set_option linter.unusedSimpArgs false

theorem take_more {α : Type} {L : List α} {k : Nat} {x : α} (h : L[k]? = some x) : L.take k ++ [x] = L.take (k + 1) := by rw [List.take_add_one, h, Option.toList_some]
set_option maxRecDepth 100000 in
set_option maxHeartbeats 3200000 in
theorem copy_nodes {L : List D_Node} {a : Option Addr} {cap : Nat} {W : World} (hn : L.length ≤ 4096) (hM : ∀ x ∈ L, x.2.length ≤ 1048576) (h : RdSl R_Node W W.heap.size L a cap) :
    Calls Try.prog 60 #[.slice a L.length cap] W (NewS R_Node L W) := by
  have H := Lib.hid h
  have HS := Lib.hid hM
  clear h hM
  obtain ⟨w0, hw0⟩ : ∃ w, w = W.alloc (.cells #[] 42) := ⟨_, rfl⟩
  have hb0 : Below W.heap.size W w0 := by rw [hw0]; exact (Below.refl _ _).alloc (Nat.le_refl _) _
  have HR0 := Lib.hid (show ARow R_Node w0 W.heap.size 42 (.slice (some ⟨W.heap.size, 0, none⟩) 0 0) [] from by rw [hw0]; exact ARow.made _ _ _)
  have HB0 := Lib.hid hb0
  clear hb0
  go_enter Try.func60, Try.ntmps60
  go_wp2
  rw [← hw0]
  clear hw0
  go_loopw [4, 3] (fun i v wr => ∃ k : Nat, k ≤ L.length ∧ i = .int .i64 k ∧ Hid (ARow R_Node wr W.heap.size 42 v (L.take k)) ∧ Below W.heap.size W wr) (fun i _ _ => L.length - (intOf i).toNat)
  case atStart => exact ⟨0, Nat.zero_le _, rfl, HR0, HB0.out⟩
  case round =>
    obtain ⟨k, hk, rfl, HR, hB⟩ := hrel
    have HB := Lib.hid hB
    have hsz := hB.size
    obtain ⟨va, vc, hv⟩ := HR.out.isSlice
    rw [List.length_take, Nat.min_eq_left hk] at hv
    subst hv
    by_cases hlt : k < L.length
    · obtain ⟨x, hx⟩ := el_some hlt
      have HT := Lib.hid (take_more hx)
      have hxl := HS.out x (List.mem_of_getElem? hx)
      have hcr := H.out
      obtain ⟨g, o, us, rfl, hg, hu, hr⟩ := hcr.at_ hx
      obtain ⟨st, M⟩ := x
      obtain ⟨ba, bc, rfl, hM⟩ := rd_Node hr
      have e0 : W.cell? ⟨g, o + k * 2, none⟩ = some (.int .i64 st) := by simpa [size_NodeS] using hu 0 _ rfl
      have e1 : W.cell? ⟨g, o + k * 2 + 1, none⟩ = some (.slice ba M.length bc) := by simpa [size_NodeS, Nat.add_assoc] using hu 1 _ rfl
      have hi0 : (0 : Int) ≤ (k : Int) := Int.natCast_nonneg _
      have hi1 : (k : Int) < (L.length : Int) := by omega
      have hMr : RdSl R_Span wr.drew wr.drew.heap.size M ba bc := (mv_rd R_Span_ok hM HB.out.drew)
      obtain ⟨a1, c1, w1, hrun1, ho1, hb1⟩ := copy_spans (ty := 39) (w := wr.drew) hxl hMr
      have hb1' : Below wr.heap.size wr w1 := (Below.refl _ wr).drew.trans hb1
      have ho1' : OwSl R_Span w1 (Rg wr.heap.size w1.heap.size) M a1 c1 := ho1
      have HRun1 := Lib.hid (show (Builtin.append_ #[39, 39] 39 #[.slice (some ⟨wr.heap.size, 0, none⟩) 0 0, .slice ba M.length bc]).run Try.prog ((wr.alloc (.cells #[] 25)).drew) = .ok (.slice a1 M.length c1) w1 from hrun1)
      obtain ⟨w2, hw2⟩ : ∃ w, w = w1.alloc (.cells #[.int .i64 st, .slice a1 M.length c1] 42) := ⟨_, rfl⟩
      have hb12 : Below w1.heap.size w1 w2 := by rw [hw2]; exact (Below.refl _ _).alloc (Nat.le_refl _) _
      have hbl : Blk w2 w1.heap.size 42 #[.int .i64 st, .slice a1 M.length c1] := by rw [hw2]; exact Blk.new _ _ _
      have ho2 : OwSl R_Span w2 (Rg wr.heap.size w2.heap.size) M a1 c1 := (ho1'.keep R_Span_ok fun q hq => hb12.block q hq.2).more fun q hq => ⟨hq.1, Nat.lt_of_lt_of_le hq.2 hb12.size⟩
      have hb2 : Below wr.heap.size wr w2 := hb1'.trans (hb12.mono hb1'.size)
      obtain ⟨a3, c3, w3, hrun3, hrow, hb3⟩ := app_node HR.out hb2 hbl ho2 (by rw [List.length_take]; omega)
      have HRun3 := Lib.hid hrun3
      rw [hw2] at HRun3
      have HB1 := Lib.hid (HB.out.trans (hb1'.mono hsz))
      have HB2 := Lib.hid (HB.out.trans (hb2.mono hsz))
      have HB3 := Lib.hid (HB2.out.trans hb3)
      rw [hw2] at HB2
      have hlen : (L.take (k + 1)).length = k + 1 := by rw [List.length_take]; omega
      rw [HT.out, hlen] at hrow HRun3
      have HR3 := Lib.hid hrow
      have HA1 := Lib.hid (HB.out.drew.alloc hsz (.cells #[] 25))
      have HG := Lib.hid hg
      clear hrun1 hrun3 hrow hb1 hb1' ho1 ho1' hb12 hbl ho2 hb2 hb3 hw2 hMr hB hcr hu hr hM hx hlen
      go_upto_region 5 with fail
      refine wp_region_held_drew (S := (fun V => Below W.heap.size W V)) (by kernel_rfl) (HB.out.drew) (fun hHeld => ?_)
      refine tk 0 hHeld ?_
      refine tk 1 hHeld ?_
      refine tk 2 hHeld ?_
      refine tk 3 hHeld ?_
      refine tk 4 hHeld ?_
      refine tk 5 hHeld ?_ (hy := fun w hSw => by (try dsimp only at hSw); have k0 := (hSw.cell (p := ⟨g, o + k * 2, none⟩) HG.out).trans e0; clear hSw; go_simp; try with_reducible rfl)
      refine tk 7 hHeld ?_
      refine tk 8 hHeld ?_
      refine tk 9 hHeld ?_
      refine tk 10 hHeld ?_
      refine tk 11 hHeld ?_ (hy := fun w hSw => by (try dsimp only at hSw); have k0 := (hSw.cell (p := ⟨g, o + k * 2 + 1, none⟩) HG.out).trans e1; clear hSw; go_simp; try with_reducible rfl)
      refine rd1 6 (fun K hK => ?_)
      go_simp
      refine hK.out _ _ HA1.out (fun hHeld => ?_)
      clear hK K
      refine rd1 12 (fun K hK => ?_)
      refine step_app rfl (.tmp 18) (.tmp 23) 39 rfl rfl rfl HRun1.out ?_
      refine hK.out _ _ HB1.out (fun hHeld => ?_)
      clear hK K
      refine tk 13 hHeld ?_
      refine rd1 14 (fun K hK => ?_)
      go_simp
      refine hK.out _ _ HB2.out (fun hHeld => ?_)
      clear hK K
      refine rd1 15 (fun K hK => ?_)
      refine step_app rfl (.tmp 12) (.tmp 26) 23 rfl rfl rfl HRun3.out ?_
      refine hK.out _ _ HB3.out (fun hHeld => ?_)
      clear hK K
      refine tk 16 hHeld ?_
      refine rd0 ?_
      clear hHeld
      go_wp2
      go_roundw
      case rel => exact ⟨k + 1, by omega, by go_num, HR3, HB3.out⟩
      case measure => simp [intOf]; omega
    · have hdl : decide ((k : Int) < (L.length : Int)) = false := decide_eq_false (by omega)
      obtain rfl : k = L.length := by omega
      have HR2 := Lib.hid (show ARow R_Node wr W.heap.size 42 (.slice va L.length vc) L from by have := HR.out; rwa [List.take_length] at this)
      clear hB
      go_wp2
      go_ret
      exact HR2.out.news R_Node_ok (Nat.le_refl _) HB.out
end Go.Proofs.Ytfciojkibklkfaa.RepC
