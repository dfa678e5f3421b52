/- changeNode of the program: a contract, for whatever change. -/
import Derived.Test.YtfciojkibklkfaaNdY
namespace Go.Proofs.Ytfciojkibklkfaa.RepC
open Go.RowKit RowC ValC SpanC KeptC
set_option linter.unusedVariables false
set_option linter.unusedSimpArgs false

/-- what a change leaves: the code, and, if that is 0, the row with the changed node; nothing but the row's blocks has turned -/
def ChgR (wq : World) (S : Nat → Prop) (chg : D_Node → Int × D_Node) (M : List D_Node) (g k : Nat) (x : D_Node) (e : Ending) (w' : World) : Prop :=
  e = .returned (.int .i64 (chg x).1) ∧ Off S wq w' ∧ ((chg x).1 = 0 → ∃ S' Sf', Row R_Node w' S' (M.set k (chg x).2) g Sf' ∧ ∀ q, S' q → (S q ∨ wq.heap.size ≤ q) ∧ q < w'.heap.size)
theorem chgR_elim {wq : World} {S : Nat → Prop} {chg : D_Node → Int × D_Node} {M : List D_Node} {g k : Nat} {x : D_Node} {e : Ending} {w' : World} (h : ChgR wq S chg M g k x e w') : e = .returned (.int .i64 (chg x).1) ∧ Off S wq w' ∧ ((chg x).1 = 0 → ∃ S' Sf', Row R_Node w' S' (M.set k (chg x).2) g Sf' ∧ ∀ q, S' q → (S q ∨ wq.heap.size ≤ q) ∧ q < w'.heap.size) := h
/-- a change of one node, in the world W -/
def ChgF (F : Nat) (lb : Array Value) (chg : D_Node → Int × D_Node) (W : World) : Prop :=
  ∀ (wq : World) (S : Nat → Prop) (M : List D_Node) (g k : Nat) (Sf : Nat → Nat → Prop) (x : D_Node), Row R_Node wq S M g Sf → (∀ q, S q → q < wq.heap.size) → (∀ q, S q → W.heap.size ≤ q) → Below W.heap.size W wq → M[k]? = some x → okN x →
    Calls Try.prog F (#[.pointer (some ⟨g, k * 2, none⟩)] ++ lb) wq (ChgR wq S chg M g k x)
theorem out_ill {W w' : World} {c : Int} (hb : Below W.heap.size W w') : NewV R_NodesOut ([], c) W (.returned (.agg #[.slice none 0 0, .int .i64 c])) w' :=
  ⟨[.slice none 0 0, .int .i64 c], rfl, mkow_NodesOut (T0 := fun _ => False) (L0 := []) (fun k h => h.elim) ⟨Nat.le_refl _, Nat.zero_le _, fun h => absurd h (Nat.lt_irrefl _)⟩, hb⟩
theorem chgV_size {L : List D_Node} {n : Int} {ok : Bool} {chg : D_Node → Int × D_Node} (h : 400 < L.length) : chgV L n ok chg = ([], 2) := by unfold chgV; rw [if_pos h]
theorem chgV_form {L : List D_Node} {n : Int} {ok : Bool} {chg : D_Node → Int × D_Node} (h : ¬ 400 < L.length) (h2 : (nodesB L && ok) = false) : chgV L n ok chg = ([], 1) := by unfold chgV; rw [if_neg h, if_pos h2]
theorem chgV_none {L : List D_Node} {n : Int} {ok : Bool} {chg : D_Node → Int × D_Node} (h : ¬ 400 < L.length) (h2 : (nodesB L && ok) = true) (h3 : isB n 0 ((L.length : Int) - 1) = false) : chgV L n ok chg = ([], 6) := by unfold chgV; rw [if_neg h, if_neg (by rw [h2]; decide), if_pos h3]
theorem chgV_at {L : List D_Node} {m : Nat} {ok : Bool} {chg : D_Node → Int × D_Node} {x : D_Node} (h : ¬ 400 < L.length) (h2 : (nodesB L && ok) = true) (hx : L[m]? = some x) : chgV L m ok chg = if (chg x).1 = 0 then (L.set m (chg x).2, 0) else ([], (chg x).1) := by
  have hm := el_lt hx
  have h3 : isB (m : Int) 0 ((L.length : Int) - 1) = true := (isB_iff _ _ _).2 ⟨by omega, by omega⟩
  unfold chgV
  rw [if_neg h, if_neg (by rw [h2]; decide), if_neg (by rw [h3]; decide), Int.toNat_natCast, hx]
set_option maxRecDepth 100000 in
set_option maxHeartbeats 3200000 in
theorem change_impl {F : Nat} {lb : Array Value} {chg : D_Node → Int × D_Node} (eg : ∀ args w, (callFunc F args).run Try.prog w = .ok (.enter F args) w) {L : List D_Node} {n : Int} {ok : Bool} {a : Option Addr} {cap : Nat} {W : World} (h : RdSl R_Node W W.heap.size L a cap) (hF : ChgF F lb chg W) :
    Calls Try.prog 49 #[.slice a L.length cap, .int .i64 n, .bool ok, .func (.func F) #[] lb] W (NewV R_NodesOut (chgV L n ok chg) W) := by
  obtain ⟨w0, hw0⟩ : ∃ w, w = W.alloc (.cells #[.slice none 0 0, .int .i64 0] 29) := ⟨_, rfl⟩
  have hb0 : Below W.heap.size W w0 := by rw [hw0]; exact (Below.refl _ _).alloc (Nat.le_refl _) _
  have X0 := Lib.hid (show Blk w0 W.heap.size 29 #[.slice none 0 0, .int .i64 0] from by rw [hw0]; exact Blk.new _ _ _)
  have H0 := Lib.hid (mv_rd R_Node_ok h hb0)
  have HB0 := Lib.hid hb0
  have HF := Lib.hid hF
  have HEG := Lib.hid eg
  have hnn := nd_len h
  have hz0 := hb0.size
  have hs := nodes_impl H0.out
  obtain ⟨z, hz⟩ : ∃ z, nodesB L = z := ⟨_, rfl⟩
  rw [hz] at hs
  have HZ := Lib.hid hz
  clear h hF eg hz hb0
  by_cases h400 : 400 < L.length
  · rw [chgV_size h400]
    have hd : decide ((400 : Int) < (L.length : Int)) = true := decide_eq_true (by omega)
    go_enter Try.func49, Try.ntmps49
    go_wp2
    refine bodyPost_ret (v := .agg #[.slice none 0 0, .int .i64 2]) (by simp [results, Try.results49, go_sem, *]) rfl (out_ill ?_)
    first | exact (Below.refl _ _).alloc (Nat.le_refl _) _ | exact ((Below.refl _ _).alloc (Nat.le_refl _) _).setCell (by first | omega | simp) _
  have hd : decide ((400 : Int) < (L.length : Int)) = false := decide_eq_false (by omega)
  go_enter Try.func49, Try.ntmps49
  go_wp2_with fail
  rw [← hw0]
  clear hw0
  refine hs.mono ?_
  intro e w1 h
  obtain ⟨rfl, hb⟩ := isB_elim h
  have X1 := Lib.hid (X0.out.call hb)
  have H1 := Lib.hid (mv_rd R_Node_ok H0.out hb)
  have HB1 := Lib.hid (HB0.out.trans (hb.mono hz0))
  have q0 := X1.out.at_ 0 rfl
  have q1 := X1.out.at_ 1 rfl
  have f0 := X1.out.soft 0
  have f1 := X1.out.soft 1
  clear h hb hs
  by_cases hzo : (z && ok) = false
  · have HE := Lib.hid (chgV_form (n := n) (chg := chg) h400 (show (nodesB L && ok) = false from by rw [HZ.out]; exact hzo))
    have key : z = false ∨ (z = true ∧ ok = false) := by cases z <;> cases ok <;> simp_all
    clear hzo
    rcases key with rfl | ⟨rfl, rfl⟩
    · go_wp2
      rw [HE.out]
      refine bodyPost_ret (v := .agg #[.slice none 0 0, .int .i64 1]) (by simp [results, Try.results49, go_sem, *]) rfl (out_ill ?_)
      exact (HB1.out.setCell (p := ⟨W.heap.size, 0, none⟩) (Nat.le_refl _) _).setCell (p := ⟨W.heap.size, 1, none⟩) (Nat.le_refl _) _
    · go_wp2
      rw [HE.out]
      refine bodyPost_ret (v := .agg #[.slice none 0 0, .int .i64 1]) (by simp [results, Try.results49, go_sem, *]) rfl (out_ill ?_)
      exact (HB1.out.setCell (p := ⟨W.heap.size, 0, none⟩) (Nat.le_refl _) _).setCell (p := ⟨W.heap.size, 1, none⟩) (Nat.le_refl _) _
  have hzo2 : z = true ∧ ok = true := by cases z <;> cases ok <;> simp_all
  obtain ⟨rfl, rfl⟩ := hzo2
  have HZO := Lib.hid (show (nodesB L && true) = true from by rw [HZ.out]; rfl)
  have hN := nodesB_iff.1 HZ.out
  have hsm := nodesR_small hN
  have hL1 := hN.1.1
  have hL6 := hN.1.2
  have HN := Lib.hid hN
  clear hzo hN
  have hwr : IntKind.i64.wrap ((L.length : Int) - 1) = (L.length : Int) - 1 := IntWalk.i64_in _ (by omega)
  obtain ⟨y, hy⟩ : ∃ y, isB n 0 ((L.length : Int) - 1) = y := ⟨_, rfl⟩
  have hi := fun W => is_impl n 0 ((L.length : Int) - 1) W
  rw [hy] at hi
  have HY := Lib.hid hy
  clear hy
  cases y with
  | false =>
    have HE := Lib.hid (chgV_none (chg := chg) h400 HZO.out HY.out)
    go_wp2_with (go_at_call 67; refine (hi _).mono ?_; rintro e w' ⟨rfl, rfl⟩)
    rw [HE.out]
    refine bodyPost_ret (v := .agg #[.slice none 0 0, .int .i64 6]) (by simp [results, Try.results49, go_sem, *]) rfl (out_ill ?_)
    exact (HB1.out.setCell (p := ⟨W.heap.size, 0, none⟩) (Nat.le_refl _) _).setCell (p := ⟨W.heap.size, 1, none⟩) (Nat.le_refl _) _
  | true =>
    have hnb := (isB_iff _ _ _).1 HY.out
    obtain ⟨m, rfl⟩ : ∃ m : Nat, n = m := ⟨n.toNat, by omega⟩
    have hm : m < L.length := by omega
    obtain ⟨x, hx⟩ := el_some hm
    have HV := Lib.hid (chgV_at (chg := chg) h400 HZO.out hx)
    have HOK := Lib.hid (nodesR_at HN.out hx)
    have HX := Lib.hid hx
    have hi0 : (0 : Int) ≤ (m : Int) := Int.natCast_nonneg _
    have hi1 : (m : Int) < (L.length : Int) := by omega
    clear hx hnb q0 q1 f0 f1
    go_wp2_with (first | (go_at_call 67; refine (hi _).mono ?_; rintro e w' ⟨rfl, rfl⟩) | fail)
    refine (copy_impl hsm.1 (by omega) hsm.2 H1.out).mono ?_
    intro e w2 h
    obtain ⟨a', c', rfl, ho, hb⟩ := newS_elim h
    obtain ⟨g, Sf, rfl, hrow⟩ := ho.row (by omega)
    have hc1 := ho.1
    have hc2 := ho.2.1
    have HB2 := Lib.hid (HB1.out.trans (hb.mono HB1.out.size))
    have X2 := Lib.hid (X1.out.call hb)
    have hsz12 := hb.size
    have hlt1 := X1.out.lt
    have hcl := HF.out w2 _ L g m Sf x hrow (fun q hq => hq.2) (fun q hq => Nat.le_trans HB1.out.size hq.1) HB2.out HX.out HOK.out
    have HCL := Lib.hid hcl
    have eg := HEG.out
    clear h ho hb hrow hcl hi hwr
    go_wp2_with fail
    refine HCL.out.mono ?_
    intro e w3 h
    obtain ⟨rfl, hof, hrow⟩ := chgR_elim h
    have hz2 := HB2.out.size
    have hz3 := hof.size
    have hxl := X2.out.lt
    have X3 := Lib.hid (show Blk w3 W.heap.size 29 #[.slice none 0 0, .int .i64 0] from (hof.block W.heap.size hxl (fun h => by have h9 : w1.heap.size ≤ W.heap.size := h.1; omega)).trans X2.out)
    have HB3 := Lib.hid (HB2.out.trans (hof.below hz2 fun q hq => Nat.le_trans HB1.out.size hq.1))
    have HROW := Lib.hid hrow
    have HVV := Lib.hid HV.out
    obtain ⟨c, hc⟩ : ∃ c, (chg x).1 = c := ⟨_, rfl⟩
    have HC := Lib.hid hc
    rw [hc]
    have q0 := X3.out.at_ 0 rfl
    have q1 := X3.out.at_ 1 rfl
    have f0 := X3.out.soft 0
    have f1 := X3.out.soft 1
    clear h hof hrow hc eg
    by_cases hc0 : c = 0
    · have HC0 := Lib.hid hc0
      subst hc0
      go_wp2
      rw [HV.out, if_pos HC.out]
      obtain ⟨S', Sf', hR, hS⟩ := HROW.out HC.out
      refine bodyPost_ret (v := .agg #[.slice (some ⟨g, 0, none⟩) L.length c', .int .i64 0]) (by simp [results, Try.results49, go_sem, *]) rfl ⟨[.slice (some ⟨g, 0, none⟩) (L.set m (chg x).2).length c', .int .i64 0], by rw [List.length_set], ?_, (HB3.out.setCell (p := ⟨W.heap.size, 0, none⟩) (Nat.le_refl _) _).setCell (p := ⟨W.heap.size, 1, none⟩) (Nat.le_refl _) _⟩
      refine mkow_NodesOut (T0 := S') (fun q hq => ?_) ((hR.slice (by rw [List.length_set]; exact hc1) hc2).keep R_Node_ok fun q hq => ?_)
      · obtain ⟨h1, h2⟩ := hS q hq
        refine ⟨?_, by simp; exact h2⟩
        rcases h1 with h1 | h1
        · exact Nat.le_trans HB1.out.size h1.1
        · omega
      · have hq2 : q ≠ W.heap.size := by
          obtain ⟨h1, h2⟩ := hS q hq
          rcases h1 with h1 | h1
          · have h9 : w1.heap.size ≤ q := h1.1; omega
          · omega
        rw [Below.heap_setCell _ ⟨W.heap.size, 1, none⟩ _ q hq2, Below.heap_setCell _ ⟨W.heap.size, 0, none⟩ _ q hq2]
    · have hb : (c != 0) = true := by simp [hc0]
      have HC0 := Lib.hid hc0
      clear hc0
      go_wp2
      rw [HV.out, if_neg (by rw [HC.out]; exact HC0.out), HC.out]
      refine bodyPost_ret (v := .agg #[.slice none 0 0, .int .i64 c]) (by simp [results, Try.results49, go_sem, *]) rfl (out_ill ?_)
      exact (HB3.out.setCell (p := ⟨W.heap.size, 0, none⟩) (Nat.le_refl _) _).setCell (p := ⟨W.heap.size, 1, none⟩) (Nat.le_refl _) _
end Go.Proofs.Ytfciojkibklkfaa.RepC
