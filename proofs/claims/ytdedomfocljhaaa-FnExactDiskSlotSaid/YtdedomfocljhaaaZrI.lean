/- The program: disks copied; what ends a change: contracts. -/
import Derived.Test.YtdedomfocljhaaaTk
import Derived.Test.YtdedomfocljhaaaTk
import Derived.Test.YtdedomfocljhaaaZrV
namespace Go.Proofs.Ytdedomfocljhaaa.ChC
open Go.RowKit SpanC KeptC RepC ValC RowC
set_option linter.unusedVariables false
set_option linter.unusedSimpArgs false
set_option maxRecDepth 100000

theorem setCell_same {w : World} {g i : Nat} {v : Value} (h : w.cell? ⟨g, i, none⟩ = some v) : w.setCell ⟨g, i, none⟩ v = w := by
  have e : (w.setCell ⟨g, i, none⟩ v).heap = w.heap := by
    unfold World.setCell
    apply Array.ext_getElem?
    intro j
    show (Array.modify _ _ _)[j]? = _
    rw [Array.getElem?_modify]
    by_cases hj : g = j
    · subst hj
      rw [if_pos rfl]
      unfold World.cell? at h
      cases ho : w.heap[g]? with
      | none => rfl
      | some o =>
        rw [ho] at h
        cases o with
        | cells c t f =>
          simp at h
          simp only [Option.map_some, Option.isSome_none, Bool.false_eq_true, if_false]
          congr 2
          apply Array.ext_getElem?
          intro q
          rw [Array.getElem?_setIfInBounds]
          by_cases hq : i = q
          · subst hq
            rw [if_pos rfl]
            have := (Array.getElem?_eq_some_iff.1 h).1
            rw [if_pos this, h]
          · rw [if_neg hq]
        | _ => simp at h
    · rw [if_neg hj]
  have e2 : w.setCell ⟨g, i, none⟩ v = { w with heap := (w.setCell ⟨g, i, none⟩ v).heap } := rfl
  rw [e2, e]
set_option maxHeartbeats 3200000 in
theorem copied_i {L : List D_Region} {p : Int} {a : Option Addr} {ca : Nat} {W : World} (hL : RdSl R_Region W W.heap.size L a ca) (hp : 0 < L.length) (hn : L.length ≤ 2000000) (hs : ∀ x ∈ L, x.1.size ≤ 3000 ∧ x.2.1.size ≤ 3000 ∧ x.2.2.size ≤ 3000) : Calls Try.prog 88 #[.agg #[.slice a L.length ca, .int .i64 p]] W (CopyD L p W) := by
  have HR := Lib.hid hL
  have hln : L.length ≤ 9223372036854775807 := by have h1 := hL.1; have h2 := hL.2.1; unfold maxLen at h2; omega
  clear hL
  obtain ⟨w0, hw0⟩ : ∃ w, w = (W.alloc (.cells #[.slice a L.length ca, .int .i64 p] 47)).alloc (.cells #[.slice none 0 0, .int .i64 0] 47) := ⟨_, rfl⟩
  have HB0 := Lib.hid (show Below W.heap.size W w0 from by rw [hw0]; exact ((Below.refl _ _).alloc (Nat.le_refl _) _).alloc (by simp) _)
  have hq9 : Blk w0 W.heap.size 47 #[.slice a L.length ca, .int .i64 p] := by
    have h9 := Blk.new W 47 #[.slice a L.length ca, .int .i64 p]
    try simp only [World.size_alloc] at h9
    rw [hw0]
    exact (h9.alloc _)
  have XD := Lib.hid hq9
  clear hq9
  have hq9 : Blk w0 (W.heap.size + 1) 47 #[.slice none 0 0, .int .i64 0] := by
    have h9 := Blk.new (W.alloc (.cells #[.slice a L.length ca, .int .i64 p] 47)) 47 #[.slice none 0 0, .int .i64 0]
    try simp only [World.size_alloc] at h9
    rw [hw0]
    exact h9
  have XO := Lib.hid hq9
  clear hq9
  have HR := Lib.hid (rdG R_Region_ok HR.out HB0.out)
  go_enter Try.func88, Try.ntmps88
  go_upto_region 1 with fail
  rw [← hw0]
  clear hw0
  have XD_q0 := XD.out.at_ 0 rfl
  have XD_q1 := XD.out.at_ 1 rfl
  go_wp2_with fail
  refine (clone_reg hn HR.out).mono ?_
  rintro e w1 ⟨v, rfl, hv, hb⟩
  obtain ⟨g, c2, rfl, hg1, hg2, hO⟩ := hv.own hp
  have HO := Lib.hid hO
  have HG := Lib.hid (And.intro hg1 hg2)
  have HLX := Lib.hid XO.out.lt
  clear hv hO hg1 hg2
  clear XD_q0 XD_q1
  have XD := Lib.hid (XD.out.call hb)
  have XO := Lib.hid (XO.out.call hb)
  have HR := Lib.hid (rdG R_Region_ok HR.out hb)
  have HB0 := Lib.hid (HB0.out.trans (hb.mono HB0.out.size))
  clear hb
  go_wp2_with fail
  go_loopw [11] (fun i wr => ∃ k : Nat, k ≤ L.length ∧ i = .int .i64 k ∧ Below w1.heap.size w1 wr) (fun i _ => L.length - (intOf i).toNat)
  case atStart => exact ⟨0, Nat.zero_le _, rfl, Below.refl _ _⟩
  case round =>
    obtain ⟨k, hk, rfl, hB⟩ := hrel
    obtain ⟨wo, rfl⟩ : ∃ x, x = wr := ⟨_, rfl⟩
    have HBB := Lib.hid hB
    have hsz := hB.size
    by_cases hlt : k < L.length
    · skip
      obtain ⟨⟨x0, x1, x2⟩, hx⟩ := el_some hlt
      obtain ⟨⟨f0, f1, f2⟩, hf, _⟩ := HO.out.cells hx
      obtain ⟨b0, b1, b2⟩ := hs _ (List.mem_of_getElem? hx)
      have e0 := (hB.cell (p := ⟨g, k * 3, none⟩) HG.out.2).trans f0
      have e1 := (hB.cell (p := ⟨g, k * 3 + 1, none⟩) HG.out.2).trans f1
      have e2 := (hB.cell (p := ⟨g, k * 3 + 2, none⟩) HG.out.2).trans f2
      have hi0 : (0 : Int) ≤ (k : Int) := Int.natCast_nonneg _
      have hi1 : (k : Int) < (L.length : Int) := by omega
      obtain ⟨w2, hw2⟩ : ∃ w, w = wo.alloc (.cells #[.string x0, .string x1, .string x2] 77) := ⟨_, rfl⟩
      have hbA : Below wo.heap.size wo w2 := by rw [hw2]; exact (Below.refl _ _).alloc (Nat.le_refl _) _
      have HP := Lib.hid (show Blk w2 wo.heap.size 77 #[.string x0, .string x1, .string x2] from by rw [hw2]; exact Blk.new _ _ _)
      have hB2 := hB.trans (hbA.mono hsz)
      have HB2 := Lib.hid hB2
      have F0 := Lib.hid ((hB2.cell (p := ⟨g, k * 3, none⟩) HG.out.2).trans f0)
      have F1 := Lib.hid ((hB2.cell (p := ⟨g, k * 3 + 1, none⟩) HG.out.2).trans f1)
      have F2 := Lib.hid ((hB2.cell (p := ⟨g, k * 3 + 2, none⟩) HG.out.2).trans f2)
      have FZ := Lib.hid (fun j => (hB2.frozen (p := ⟨g, j, none⟩) HG.out.2).trans (hf j))
      have HGL := Lib.hid (Nat.lt_of_lt_of_le HG.out.2 hB2.size)
      have HSM := Lib.hid (fun (V : World) (h : Below w2.heap.size w2 V) => (show (((V.setCell ⟨g, k * 3, none⟩ (.string x0)).setCell ⟨g, k * 3 + 1, none⟩ (.string x1)).setCell ⟨g, k * 3 + 2, none⟩ (.string x2)) = V from by
        have E0 := (h.cell (p := ⟨g, k * 3, none⟩) HGL.out).trans F0.out
        have E1 := (h.cell (p := ⟨g, k * 3 + 1, none⟩) HGL.out).trans F1.out
        have E2 := (h.cell (p := ⟨g, k * 3 + 2, none⟩) HGL.out).trans F2.out
        rw [setCell_same E0, setCell_same E1, setCell_same E2]))
      clear hx f0 f1 f2 hf hB hB2 hbA
      go_upto_region 5 with fail
      rw [← hw2]
      clear hw2 e0 e1 e2
      refine wp_region_held_drew (S := (fun V => Below w2.heap.size w2 V)) (by kernel_rfl) ((Below.refl _ _).drew) (fun hHeld => ?_)
      refine tk 0 hHeld ?_
      refine tk 1 hHeld ?_
      refine tk 2 hHeld ?_
      refine tk 3 hHeld ?_ (hy := fun w hSw => by (try dsimp only at hSw); have k0 := (hSw.cell (p := ⟨wo.heap.size, 0, none⟩) HP.out.lt).trans (HP.out.at_ 0 rfl); clear hSw; go_simp; try with_reducible rfl)
      refine tk 5 hHeld ?_
      refine tk 6 hHeld ?_ (hy := fun w hSw => by (try dsimp only at hSw); have k0 := (hSw.cell (p := ⟨wo.heap.size, 1, none⟩) HP.out.lt).trans (HP.out.at_ 1 rfl); clear hSw; go_simp; try with_reducible rfl)
      refine tk 8 hHeld ?_
      refine tk 9 hHeld ?_ (hy := fun w hSw => by (try dsimp only at hSw); have k0 := (hSw.cell (p := ⟨wo.heap.size, 2, none⟩) HP.out.lt).trans (HP.out.at_ 2 rfl); clear hSw; go_simp; try with_reducible rfl)
      refine rd1 4 (fun K hK => ?_)
      go_simp
      go_at_call 49
      refine (CloneC.clone_any x0 _ (Nat.le_trans b0 (by omega))).mono ?_
      rintro e v20 ⟨rfl, hb⟩
      refine hK.out _ _ (hHeld.trans (hb.mono hHeld.size)) (fun hHeld => ?_)
      clear hK K hb
      refine rd1 7 (fun K hK => ?_)
      go_simp
      go_at_call 49
      refine (CloneC.clone_any x1 _ (Nat.le_trans b1 (by omega))).mono ?_
      rintro e v23 ⟨rfl, hb⟩
      refine hK.out _ _ (hHeld.trans (hb.mono hHeld.size)) (fun hHeld => ?_)
      clear hK K hb
      refine rd1 10 (fun K hK => ?_)
      go_simp
      go_at_call 49
      refine (CloneC.clone_any x2 _ (Nat.le_trans b2 (by omega))).mono ?_
      rintro e v26 ⟨rfl, hb⟩
      refine hK.out _ _ (hHeld.trans (hb.mono hHeld.size)) (fun hHeld => ?_)
      clear hK K hb
      refine tk 11 hHeld ?_
      refine tk 12 hHeld ?_
      refine rd1 13 (fun K hK => ?_)
      have q0 := (hHeld.cell (p := ⟨g, k * 3, none⟩) HGL.out).trans F0.out
      have q1 := (hHeld.cell (p := ⟨g, k * 3 + 1, none⟩) HGL.out).trans F1.out
      have q2 := (hHeld.cell (p := ⟨g, k * 3 + 2, none⟩) HGL.out).trans F2.out
      have z0 := (hHeld.frozen (p := ⟨g, k * 3, none⟩) HGL.out).trans (FZ.out _)
      have z1 := (hHeld.frozen (p := ⟨g, k * 3 + 1, none⟩) HGL.out).trans (FZ.out _)
      have z2 := (hHeld.frozen (p := ⟨g, k * 3 + 2, none⟩) HGL.out).trans (FZ.out _)
      have hsm := HSM.out _ hHeld
      go_simp
      refine hK.out _ _ (by first | exact hHeld | (rw [hsm]; exact hHeld)) (fun hHeld => ?_)
      try rw [hsm]
      clear hK K q0 q1 q2 z0 z1 z2 hsm
      refine rd0 ?_
      have HB3 := Lib.hid (HB2.out.trans (hHeld.mono HB2.out.size))
      clear hHeld
      go_wp2
      go_roundw
      case rel => exact ⟨k + 1, by omega, by go_num, HB3.out⟩
      case measure => simp [intOf]; omega
    · have hdl : decide ((k : Int) < (L.length : Int)) = false := decide_eq_false (by omega)
      have HXO3 := Lib.hid (XO.out.call hB)
      have XD := Lib.hid (XD.out.call hB)
      have HOFF := Lib.hid (putCells_off (W.heap.size + 1) [.slice (some ⟨g, 0, none⟩) L.length c2, .int .i64 p] wo 0)
      have HST := Lib.hid (copyD_put (L := L) (p := p) (W := W) (show W.heap.size ≤ W.heap.size + 1 by omega) (HB0.out.trans (hB.mono HB0.out.size)) (by have := HG.out; have := HLX.out; omega) (Nat.lt_of_lt_of_le HG.out.2 hB.size) (HO.out.keep (hB.block g HG.out.2)) HOFF.out)
      clear hB
      have d0 := XD.out.at_ 0 rfl
      have d1 := XD.out.at_ 1 rfl
      have q0 := HXO3.out.at_ 0 rfl
      have q1 := HXO3.out.at_ 1 rfl
      have f0 := HXO3.out.soft 0
      have f1 := HXO3.out.soft 1
      go_wp2
      exact bodyPost_ret (v := .agg #[.slice (some ⟨g, 0, none⟩) L.length c2, .int .i64 p]) (by simp [results, Try.results88, go_sem, *]) rfl HST.out
/-- the panic of a violation -/
def pErr (c : Int) : List PanicEntry := [{ v := .iface 88 (.int .i64 c), recovered := false }]
theorem must_yes (c : Int) (w : World) : Calls Try.prog 68 #[.bool true, .int .i64 c] w fun e w' => e = .returned (.tuple #[]) ∧ w = w' := by
  go_enter Try.func68, Try.ntmps68
  go_wp2
  go_end0
  exact ⟨rfl, rfl⟩
theorem must_no (c : Int) (w : World) : Calls Try.prog 68 #[.bool false, .int .i64 c] w fun e w' => e = .panicked (pErr c) ∧ w = w' := by
  unfold pErr
  go_enter Try.func68, Try.ntmps68
  go_wp2
  exact ⟨rfl, rfl, rfl⟩
theorem code_of (c : Int) (w : World) : Calls Try.prog 86 #[.iface 88 (.int .i64 c)] w fun e w' => e = .returned (.int .i64 c) ∧ w = w' := by
  have ha : ∀ W : World, (Instr.typeAssert (.iface 88 (.int .i64 c)) 20 88 true).run Try.prog W = .ok (.tuple #[.int .i64 c, .bool true]) W := fun W => by kernel_rfl
  go_enter Try.func86, Try.ntmps86
  go_wp2
  go_ret
  exact ⟨rfl, rfl⟩
theorem hasreg_i {L : List D_Region} {p r : Int} {a : Option Addr} {c : Nat} {W : World} (hln : L.length ≤ 9223372036854775807) : Calls Try.prog 87 #[.agg #[.slice a L.length c, .int .i64 p], .int .i64 r] W fun e w' => e = .returned (.bool (isB r 0 ((L.length : Int) - 1))) ∧ Below W.heap.size W w' := by
  have HI := Lib.hid (fun w => is_impl r 0 ((L.length : Int) - 1) w)
  obtain ⟨w0, hw0⟩ : ∃ w, w = W.alloc (.cells #[.slice a L.length c, .int .i64 p] 47) := ⟨_, rfl⟩
  have HB0 := Lib.hid (show Below W.heap.size W w0 from by rw [hw0]; exact (Below.refl _ _).alloc (Nat.le_refl _) _)
  have X := Lib.hid (show Blk w0 W.heap.size 47 #[.slice a L.length c, .int .i64 p] from by rw [hw0]; exact Blk.new _ _ _)
  have q0 := X.out.at_ 0 rfl
  have hw : IntKind.i64.wrap ((L.length : Int) - 1) = (L.length : Int) - 1 := IntWalk.i64_in _ (by omega)
  go_enter Try.func87, Try.ntmps87
  go_upto_region 1 with fail
  rw [← hw0]
  clear hw0
  go_wp2_with fail
  refine (HI.out _).mono ?_
  rintro e w1 ⟨rfl, rfl⟩
  go_wp2
  go_ret
  exact ⟨rfl, HB0.out⟩
theorem hasreg_b {L : List D_Region} {p r : Int} {a : Option Addr} {c : Nat} {W : World} {b : Bool} (hb : isB r 0 ((L.length : Int) - 1) = b) (hln : L.length ≤ 9223372036854775807) : Calls Try.prog 87 #[.agg #[.slice a L.length c, .int .i64 p], .int .i64 r] W fun e w' => e = .returned (.bool b) ∧ Below W.heap.size W w' := by
  subst hb
  exact hasreg_i hln
/-- what a change that was ended comes to -/
def endV (v0 v1 : Value) (c : Int) : Array Value := if c = 12 then #[v0, v1, .int .i64 12] else #[.slice none 0 0, .int .i64 0, .int .i64 c]
theorem endV_down (v0 v1 : Value) : endV v0 v1 12 = #[v0, v1, .int .i64 12] := if_pos rfl
theorem endV_else (v0 v1 : Value) {c : Int} (h : ¬ c = 12) : endV v0 v1 c = #[.slice none 0 0, .int .i64 0, .int .i64 c] := if_neg h
set_option maxHeartbeats 1600000 in
theorem ended_i {G : Nat} {v0 v1 v2 : Value} {c : Int} {W : World} (h : c = 12 → Blk W G 92 #[v0, v1, v2] ∧ ∃ a n ca q, v0 = .slice a n ca ∧ v1 = .int .i64 q) :
    Calls Try.prog 85 #[.pointer (some ⟨G, 0, none⟩), .int .i64 c] W fun e w' => e = .returned (.agg (endV v0 v1 c)) ∧ Below W.heap.size W w' := by
  have H := Lib.hid h
  clear h
  obtain ⟨w0, hw0⟩ : ∃ w, w = W.alloc (.cells #[.slice none 0 0, .int .i64 0, .int .i64 0] 55) := ⟨_, rfl⟩
  have HB0 := Lib.hid (show Below W.heap.size W w0 from by rw [hw0]; exact (Below.refl _ _).alloc (Nat.le_refl _) _)
  have hq9 : Blk w0 W.heap.size 55 #[.slice none 0 0, .int .i64 0, .int .i64 0] := by
    have h9 := Blk.new W 55 #[.slice none 0 0, .int .i64 0, .int .i64 0]
    try simp only [World.size_alloc] at h9
    rw [hw0]
    exact h9
  have XO := Lib.hid hq9
  clear hq9
  have HBW := Lib.hid (fun (h : c = 12) => show Blk w0 G 92 #[v0, v1, v2] from (HB0.out.block G (H.out h).1.lt).trans (H.out h).1)
  go_enter Try.func85, Try.ntmps85
  go_upto_region 1 with fail
  rw [← hw0]
  clear hw0
  have XO_q0 := XO.out.at_ 0 rfl
  have XO_q1 := XO.out.at_ 1 rfl
  have XO_q2 := XO.out.at_ 2 rfl
  have XO_s0 := XO.out.soft 0
  have XO_s1 := XO.out.soft 1
  have XO_s2 := XO.out.soft 2
  by_cases hc : c = 12
  rotate_left
  · have hcb : (c == 12) = false := by simpa using hc
    have HC := Lib.hid hc
    clear hc
    go_wp2
    exact bodyPost_ret (v := .agg #[.slice none 0 0, .int .i64 0, .int .i64 c]) (by simp [results, Try.results85, go_sem, *]) rfl ⟨by rw [endV_else _ _ HC.out], (((HB0.out.setCell (p := ⟨W.heap.size, 0, none⟩) (by show W.heap.size ≤ W.heap.size; omega) _).setCell (p := ⟨W.heap.size, 1, none⟩) (by show W.heap.size ≤ W.heap.size; omega) _).setCell (p := ⟨W.heap.size, 2, none⟩) (by show W.heap.size ≤ W.heap.size; omega) _)⟩
  subst hc
  obtain ⟨hbk, aa, nn, cc, qq, rfl, rfl⟩ := H.out rfl
  have HBK := Lib.hid (HBW.out rfl)
  have b0 := HBK.out.at_ 0 rfl
  have b1 := HBK.out.at_ 1 rfl
  have hcb : ((12 : Int) == 12) = true := rfl
  go_wp2
  exact bodyPost_ret (v := .agg #[.slice aa nn cc, .int .i64 qq, .int .i64 12]) (by simp [results, Try.results85, go_sem, *]) rfl ⟨by rw [endV_down], (((HB0.out.setCell (p := ⟨W.heap.size, 0, none⟩) (by show W.heap.size ≤ W.heap.size; omega) _).setCell (p := ⟨W.heap.size, 1, none⟩) (by show W.heap.size ≤ W.heap.size; omega) _).setCell (p := ⟨W.heap.size, 2, none⟩) (by show W.heap.size ≤ W.heap.size; omega) _)⟩
set_option maxHeartbeats 1600000 in
theorem end_panicking {G b : Nat} {v0 v1 v2 u0 u1 u2 : Value} {c : Int} {older : List PanicEntry} {w : World} (hb : Blk w b 55 #[u0, u1, u2]) (h : c = 12 → Blk w G 92 #[v0, v1, v2] ∧ ∃ a n ca q, v0 = .slice a n ca ∧ v1 = .int .i64 q) :
    CallsD Try.prog 84 #[.pointer (some ⟨G, 0, none⟩), .pointer (some ⟨b, 0, none⟩)] (.panicking ({ v := .iface 88 (.int .i64 c), recovered := false } :: older)) w fun e u' w' =>
      e = .returned (.tuple #[]) ∧ u' = .panicking ({ v := .iface 88 (.int .i64 c), recovered := true } :: older) ∧ Blk w' b 55 (endV v0 v1 c) ∧ Off (fun q => q = b) w w' := by
  have H := Lib.hid h
  have HBB := Lib.hid hb
  clear h hb
  refine callsD_of_wpS Try.func84 rfl fun c₀ cs hu => ?_
  apply wpS_seq
  apply wpS_region
  simp [wpOpsS, go_sem, recoverD, hu, Try.ntmps84, Exit.thenS]
  refine wpS_of_wp ?_
  go_wp2_with fail
  refine (code_of _ _).mono ?_
  rintro e w' ⟨rfl, rfl⟩
  go_wp2_with fail
  refine (ended_i (v2 := v2) H.out).mono ?_
  rintro e w1 ⟨rfl, hb1⟩
  have HB1 := Lib.hid (HBB.out.call hb1)
  have HOF1 := Lib.hid ((Off.refl (fun q => q = b) w).of_below hb1)
  have e0 := HB1.out.at_ 0 rfl
  have e1 := HB1.out.at_ 1 rfl
  have e2 := HB1.out.at_ 2 rfl
  have f0 := HB1.out.soft 0
  have f1 := HB1.out.soft 1
  have f2 := HB1.out.soft 2
  clear hb1
  by_cases hc : c = 12
  · subst hc
    rw [endV_down]
    obtain ⟨_, aa, nn, cc, qq, rfl, rfl⟩ := H.out rfl
    have HV := Lib.hid ((((HB1.out.set 0 (.slice aa nn cc)).set 1 (.int .i64 qq)).set 2 (.int .i64 12)).as rfl)
    have HOF := Lib.hid (HOF1.out.trans (putCells_off b [.slice aa nn cc, .int .i64 qq, .int .i64 12] w1 0))
    go_wp2
    simp [bodyPostS, results, Try.results84]
    exact ⟨HV.out, HOF.out⟩
  · rw [endV_else _ _ hc]
    have HV := Lib.hid ((((HB1.out.set 0 (.slice none 0 0)).set 1 (.int .i64 0)).set 2 (.int .i64 c)).as rfl)
    have HOF := Lib.hid (HOF1.out.trans (putCells_off b [.slice none 0 0, .int .i64 0, .int .i64 c] w1 0))
    go_wp2
    simp [bodyPostS, results, Try.results84]
    exact ⟨by first | exact HV.out | (rw [endV_else _ _ hc]; exact HV.out), HOF.out⟩
theorem end_idle (G b : Nat) (w : World) :
    CallsD Try.prog 84 #[.pointer (some ⟨G, 0, none⟩), .pointer (some ⟨b, 0, none⟩)] .returning w fun e u' w' => e = .returned (.tuple #[]) ∧ u' = .returning ∧ w' = w := by
  refine callsD_of_wpS Try.func84 rfl fun c₀ cs hu => ?_
  apply wpS_seq
  apply wpS_region
  simp [wpOpsS, go_sem, recoverD, hu, Try.ntmps84, Exit.thenS]
  refine wpS_of_wp ?_
  go_wp2
  cases c₀
  simp_all [bodyPostS, results, Try.results84]
end Go.Proofs.Ytdedomfocljhaaa.ChC
