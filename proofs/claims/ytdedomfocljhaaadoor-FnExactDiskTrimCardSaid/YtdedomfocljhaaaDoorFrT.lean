/- The laws' data: contracts. -/
import Derived.Test.YtdedomfocljhaaaDoorTk
import Derived.Test.YtdedomfocljhaaaDoorJobT
import Derived.Test.YtdedomfocljhaaaDoorMkT
namespace Go.Proofs.YtdedomfocljhaaaDoor.RepC
open Go.RowKit RowC ValC
set_option linter.unusedVariables false
set_option linter.unusedSimpArgs false

abbrev D_Frame : Type := (Int) × (ByteArray)
def R_Frame : Rp D_Frame := (Pr I St)
theorem R_Frame_ok : Ok R_Frame := (Pr_ok I_ok St_ok)
theorem rd_Frame {W : World} {B : Nat} {x0 : Int} {x1 : ByteArray} {cs : List Value} (h : R_Frame.rd W B (x0, x1) cs) : cs = [.int .i64 x0, .string x1] ∧ x1.size ≤ maxLen := by
  obtain ⟨u1, v1, rfl, h1, g1⟩ := h
  obtain rfl : u1 = [_] := h1
  obtain ⟨hq_x1, b_x1⟩ := g1
  obtain rfl : v1 = [_] := hq_x1
  exact ⟨rfl, b_x1⟩
theorem mkrd_Frame {W : World} {B : Nat} {x0 : Int} {x1 : ByteArray}  (b_x1 : x1.size ≤ maxLen) : R_Frame.rd W B (x0, x1) [.int .i64 x0, .string x1] := ⟨[.int .i64 x0], [.string x1], rfl, rfl, ⟨rfl, b_x1⟩⟩
theorem mkow_Frame {W : World} {S : Nat → Prop} {x0 : Int} {x1 : ByteArray}  (b_x1 : x1.size ≤ maxLen) : R_Frame.ow W S (x0, x1) [.int .i64 x0, .string x1] := ⟨[.int .i64 x0], [.string x1], (fun _ => False), (fun _ => False), rfl, (fun k h => h.elim), (fun k h => h.elim), (fun k h h' => h.elim), rfl, ⟨rfl, b_x1⟩⟩
theorem ow0_Frame {W : World} {S : Nat → Prop} {x0 : Int} {x1 : ByteArray} {cs : List Value} (h : R_Frame.ow W S (x0, x1) cs) : cs = [.int .i64 x0, .string x1] ∧ x1.size ≤ maxLen := by
  obtain ⟨u1, v1, A1, B1, rfl, sa1, sb1, dd1, h1, g1⟩ := h
  obtain rfl : u1 = [_] := h1
  obtain ⟨hq_x1, b_x1⟩ := g1
  obtain rfl : v1 = [_] := hq_x1
  exact ⟨rfl, b_x1⟩

abbrev D_FrameOut : Type := (D_Frame) × (Int) × (Int)
def R_FrameOut : Rp D_FrameOut := (Pr R_Frame (Pr I I))
theorem R_FrameOut_ok : Ok R_FrameOut := (Pr_ok R_Frame_ok (Pr_ok I_ok I_ok))
theorem rd_FrameOut {W : World} {B : Nat} {x0 : Int} {x1 : ByteArray} {x2 : Int} {x3 : Int} {cs : List Value} (h : R_FrameOut.rd W B ((x0, x1), x2, x3) cs) : cs = [.int .i64 x0, .string x1, .int .i64 x2, .int .i64 x3] ∧ x1.size ≤ maxLen := by
  obtain ⟨u1, v1, rfl, h1, g1⟩ := h
  obtain ⟨u2, v2, rfl, h2, g2⟩ := h1
  obtain rfl : u2 = [_] := h2
  obtain ⟨hq_x1, b_x1⟩ := g2
  obtain rfl : v2 = [_] := hq_x1
  obtain ⟨u3, v3, rfl, h3, g3⟩ := g1
  obtain rfl : u3 = [_] := h3
  obtain rfl : v3 = [_] := g3
  exact ⟨rfl, b_x1⟩
theorem mkrd_FrameOut {W : World} {B : Nat} {x0 : Int} {x1 : ByteArray} {x2 : Int} {x3 : Int}  (b_x1 : x1.size ≤ maxLen) : R_FrameOut.rd W B ((x0, x1), x2, x3) [.int .i64 x0, .string x1, .int .i64 x2, .int .i64 x3] := ⟨[.int .i64 x0, .string x1], [.int .i64 x2, .int .i64 x3], rfl, ⟨[.int .i64 x0], [.string x1], rfl, rfl, ⟨rfl, b_x1⟩⟩, ⟨[.int .i64 x2], [.int .i64 x3], rfl, rfl, rfl⟩⟩
theorem mkow_FrameOut {W : World} {S : Nat → Prop} {x0 : Int} {x1 : ByteArray} {x2 : Int} {x3 : Int}  (b_x1 : x1.size ≤ maxLen) : R_FrameOut.ow W S ((x0, x1), x2, x3) [.int .i64 x0, .string x1, .int .i64 x2, .int .i64 x3] := ⟨[.int .i64 x0, .string x1], [.int .i64 x2, .int .i64 x3], (fun _ => False), (fun _ => False), rfl, (fun k h => h.elim), (fun k h => h.elim), (fun k h h' => h.elim), ⟨[.int .i64 x0], [.string x1], (fun _ => False), (fun _ => False), rfl, (fun k h => h.elim), (fun k h => h.elim), (fun k h h' => h.elim), rfl, ⟨rfl, b_x1⟩⟩, ⟨[.int .i64 x2], [.int .i64 x3], (fun _ => False), (fun _ => False), rfl, (fun k h => h.elim), (fun k h => h.elim), (fun k h h' => h.elim), rfl, rfl⟩⟩
theorem ow0_FrameOut {W : World} {S : Nat → Prop} {x0 : Int} {x1 : ByteArray} {x2 : Int} {x3 : Int} {cs : List Value} (h : R_FrameOut.ow W S ((x0, x1), x2, x3) cs) : cs = [.int .i64 x0, .string x1, .int .i64 x2, .int .i64 x3] ∧ x1.size ≤ maxLen := by
  obtain ⟨u1, v1, A1, B1, rfl, sa1, sb1, dd1, h1, g1⟩ := h
  obtain ⟨u2, v2, A2, B2, rfl, sa2, sb2, dd2, h2, g2⟩ := h1
  obtain rfl : u2 = [_] := h2
  obtain ⟨hq_x1, b_x1⟩ := g2
  obtain rfl : v2 = [_] := hq_x1
  obtain ⟨u3, v3, A3, B3, rfl, sa3, sb3, dd3, h3, g3⟩ := g1
  obtain rfl : u3 = [_] := h3
  obtain rfl : v3 = [_] := g3
  exact ⟨rfl, b_x1⟩

abbrev D_LogOut : Type := (List (D_Frame)) × (Int) × (Int)
def R_LogOut : Rp D_LogOut := (Pr (Sl R_Frame) (Pr I I))
theorem R_LogOut_ok : Ok R_LogOut := (Pr_ok (Sl_ok R_Frame_ok) (Pr_ok I_ok I_ok))
theorem rd_LogOut {W : World} {B : Nat} {L0 : List (D_Frame)} {x1 : Int} {x2 : Int} {cs : List Value} (h : R_LogOut.rd W B (L0, x1, x2) cs) : ∃ a0 c0, cs = [.slice a0 L0.length c0, .int .i64 x1, .int .i64 x2] ∧ RdSl R_Frame W B L0 a0 c0 := by
  obtain ⟨u1, v1, rfl, h1, g1⟩ := h
  obtain ⟨a0, c0, rfl, k_L0⟩ := h1
  obtain ⟨u2, v2, rfl, h2, g2⟩ := g1
  obtain rfl : u2 = [_] := h2
  obtain rfl : v2 = [_] := g2
  exact ⟨a0, c0, rfl, k_L0⟩
theorem mkrd_LogOut {W : World} {B : Nat} {L0 : List (D_Frame)} {x1 : Int} {x2 : Int} {a0 : Option Addr} {c0 : Nat} (h_L0 : RdSl R_Frame W B L0 a0 c0) : R_LogOut.rd W B (L0, x1, x2) [.slice a0 L0.length c0, .int .i64 x1, .int .i64 x2] := ⟨[.slice a0 L0.length c0], [.int .i64 x1, .int .i64 x2], rfl, ⟨a0, c0, rfl, h_L0⟩, ⟨[.int .i64 x1], [.int .i64 x2], rfl, rfl, rfl⟩⟩
theorem mkow_LogOut {W : World} {S : Nat → Prop} {L0 : List (D_Frame)} {x1 : Int} {x2 : Int} {a0 : Option Addr} {c0 : Nat} {T0 : Nat → Prop} (hs0 : ∀ k, T0 k → S k) (h_L0 : OwSl R_Frame W T0 L0 a0 c0) : R_LogOut.ow W S (L0, x1, x2) [.slice a0 L0.length c0, .int .i64 x1, .int .i64 x2] := ⟨[.slice a0 L0.length c0], [.int .i64 x1, .int .i64 x2], T0, (fun _ => False), rfl, (fun k h => hs0 k h), (fun k h => h.elim), (fun k h h' => h'.elim), ⟨a0, c0, rfl, h_L0⟩, ⟨[.int .i64 x1], [.int .i64 x2], (fun _ => False), (fun _ => False), rfl, (fun k h => h.elim), (fun k h => h.elim), (fun k h h' => h.elim), rfl, rfl⟩⟩
theorem ow_LogOut {W : World} {S : Nat → Prop} {L0 : List (D_Frame)} {x1 : Int} {x2 : Int} {cs : List Value} (h : R_LogOut.ow W S (L0, x1, x2) cs) : ∃ a0 c0, ∃ T0 : Nat → Prop, cs = [.slice a0 L0.length c0, .int .i64 x1, .int .i64 x2] ∧ (∀ k, T0 k → S k) ∧ OwSl R_Frame W T0 L0 a0 c0 := by
  obtain ⟨u1, v1, A1, B1, rfl, sa1, sb1, dd1, h1, g1⟩ := h
  obtain ⟨a0, c0, rfl, k_L0⟩ := h1
  obtain ⟨u2, v2, A2, B2, rfl, sa2, sb2, dd2, h2, g2⟩ := g1
  obtain rfl : u2 = [_] := h2
  obtain rfl : v2 = [_] := g2
  exact ⟨a0, c0, A1, rfl, fun k h => sa1 k (h), k_L0⟩


theorem size_FrameS : (R_Frame).size = 2 := rfl
def zs_FrameS (n : Nat) : Array Value := madeCells #[.int .i64 0, .string ⟨#[]⟩] (n * 2)
theorem zs_FrameS_size (n : Nat) : (zs_FrameS n).size = n * (R_Frame).size := by unfold zs_FrameS; simp [madeCells, size_FrameS]
theorem make_FrameS (n : Nat) (hn : n ≤ 1048576) : ∀ W : World, (Instr.makeSlice 29 (.int .i64 (n : Int)) (.int .i64 (n : Int))).run Tryd.prog W = .ok (.slice (some ⟨W.heap.size, 0, none⟩) n n) (W.alloc (.cells (zs_FrameS n) 23)) := by
  intro W
  obtain ⟨i, hi, hz, hs, hb⟩ : ∃ i, Tryd.prog.info? 23 = some i ∧ i.zero = some (.agg #[.int .i64 0, .string ⟨#[]⟩]) ∧ i.size = 2 ∧ i.bytes = 24 := by
    have h : (Tryd.prog.info? 23).map (fun i => (i.zero, i.size, i.bytes)) = some (some (.agg #[.int .i64 0, .string ⟨#[]⟩]), 2, 24) := by kernel_rfl
    cases hx : Tryd.prog.info? 23 with
    | none => rw [hx] at h; simp at h
    | some i => rw [hx] at h; simp at h; exact ⟨i, rfl, h.1, h.2.1, h.2.2⟩
  have hr := run_make (P := Tryd.prog) W 29 23 i _ Tryd.underlying29 hi hz .i64 .i64 n n (by omega) (by omega) (by rw [hb]; omega) (by omega)
  rw [hs] at hr
  simp only [Int.toNat_natCast] at hr
  exact hr

set_option maxRecDepth 100000 in
set_option maxHeartbeats 3200000 in
theorem eq_Frame {x0 : Int} {x1 : ByteArray}   {W : World} : Calls Tryd.prog 35 #[.agg #[.int .i64 x0, .string x1], .agg #[.int .i64 x0, .string x1]] W (IsB true W) := by
  have HB0 := Lib.hid (show Below W.heap.size W ((W.alloc (.cells #[.int .i64 x0, .string x1] 23)).alloc (.cells #[.int .i64 x0, .string x1] 23)) from ((Below.refl _ _).alloc (Nat.le_refl _) _).alloc (by simp) _)
  go_enter Tryd.func35, Tryd.ntmps35
  go_wp2
  all_goals
    go_ret
    exact ⟨rfl, HB0.out⟩


set_option maxRecDepth 100000 in
set_option maxHeartbeats 3200000 in
theorem eq_FrameOut {x0 : Int} {x1 : ByteArray} {x2 : Int} {x3 : Int}   {W : World} : Calls Tryd.prog 10 #[.agg #[.int .i64 x0, .string x1, .int .i64 x2, .int .i64 x3], .agg #[.int .i64 x0, .string x1, .int .i64 x2, .int .i64 x3]] W (IsB true W) := by
  have HB0 := Lib.hid (show Below W.heap.size W ((W.alloc (.cells #[.int .i64 x0, .string x1, .int .i64 x2, .int .i64 x3] 25)).alloc (.cells #[.int .i64 x0, .string x1, .int .i64 x2, .int .i64 x3] 25)) from ((Below.refl _ _).alloc (Nat.le_refl _) _).alloc (by simp) _)
  have hP := (Blk.new W 25 #[.int .i64 x0, .string x1, .int .i64 x2, .int .i64 x3]).alloc (.cells #[.int .i64 x0, .string x1, .int .i64 x2, .int .i64 x3] 25)
  have hQ := Blk.new (W.alloc (.cells #[.int .i64 x0, .string x1, .int .i64 x2, .int .i64 x3] 25)) 25 #[.int .i64 x0, .string x1, .int .i64 x2, .int .i64 x3]
  simp only [World.size_alloc] at hP hQ
  have HP0 := Lib.hid hP
  have HQ0 := Lib.hid hQ
  have hz0 : W.heap.size ≤ ((W.alloc (.cells #[.int .i64 x0, .string x1, .int .i64 x2, .int .i64 x3] 25)).alloc (.cells #[.int .i64 x0, .string x1, .int .i64 x2, .int .i64 x3] 25)).heap.size := HB0.out.size
  clear hP hQ
  go_enter Tryd.func10, Tryd.ntmps10
  go_wp2_with fail
  refine (eq_Frame).mono ?_
  intro e w1 h
  obtain ⟨rfl, hb⟩ := isB_elim h
  have HP1 := Lib.hid (HP0.out.call hb)
  have HQ1 := Lib.hid (HQ0.out.call hb)
  have HB1 := Lib.hid (HB0.out.trans (hb.mono hz0))
  have hz1 : W.heap.size ≤ w1.heap.size := HB1.out.size
  clear h hb
  have p1_2 := HP1.out.at_ 2 rfl
  have q1_2 := HQ1.out.at_ 2 rfl
  have p1_3 := HP1.out.at_ 3 rfl
  have q1_3 := HQ1.out.at_ 3 rfl
  go_wp2
  all_goals
    go_ret
    exact ⟨rfl, HB1.out⟩


theorem sizeq_FrameS : (R_Frame).size = 2 := rfl
set_option maxRecDepth 100000 in
set_option maxHeartbeats 3200000 in
theorem eq_FrameS {L : List (D_Frame)} {a a' : Option Addr} {cap cap' : Nat} {W : World} (h : RdSl R_Frame W W.heap.size L a cap) (h' : RdSl R_Frame W W.heap.size L a' cap') : Calls Tryd.prog 36 #[.slice a L.length cap, .slice a' L.length cap'] W (IsB true W) := by
  have hn : L.length ≤ 9223372036854775807 := by have h1 := h.1; have h2 := h.2.1; unfold maxLen at h2; omega
  have H := Lib.hid h
  have H' := Lib.hid h'
  clear h h'
  go_enter Tryd.func36, Tryd.ntmps36
  go_wp2
  go_loopw [5] (fun i wr => ∃ k : Nat, k ≤ L.length ∧ i = .int .i64 k ∧ Below W.heap.size W wr) (fun i _ => L.length - (intOf i).toNat)
  case atStart => exact ⟨0, Nat.zero_le _, rfl, Below.refl _ _⟩
  case round =>
    obtain ⟨k, hk, rfl, hB⟩ := hrel
    have HB := Lib.hid hB
    have hsz := hB.size
    by_cases hlt : k < L.length
    · obtain ⟨⟨x0, x1⟩, hx⟩ := el_some hlt
      have HX := Lib.hid hx
      obtain ⟨g, o, us, rfl, hg, hu, hr⟩ := (H.out.below R_Frame_ok hB).at_ hx
      obtain ⟨g', o', vs, rfl, hg', hu', hr'⟩ := (H'.out.below R_Frame_ok hB).at_ hx
      obtain ⟨rfl, b_x1⟩ := rd_Frame hr
      obtain ⟨rfl, b'_x1⟩ := rd_Frame hr'
      have e0 : wr.cell? ⟨g, o + k * 2, none⟩ = some (.int .i64 x0) := by simpa [sizeq_FrameS, Nat.add_assoc] using hu 0 _ rfl
      have d0 : wr.cell? ⟨g', o' + k * 2, none⟩ = some (.int .i64 x0) := by simpa [sizeq_FrameS, Nat.add_assoc] using hu' 0 _ rfl
      have e1 : wr.cell? ⟨g, o + k * 2 + 1, none⟩ = some (.string x1) := by simpa [sizeq_FrameS, Nat.add_assoc] using hu 1 _ rfl
      have d1 : wr.cell? ⟨g', o' + k * 2 + 1, none⟩ = some (.string x1) := by simpa [sizeq_FrameS, Nat.add_assoc] using hu' 1 _ rfl
      have hi0 : (0 : Int) ≤ (k : Int) := Int.natCast_nonneg _
      have hi1 : (k : Int) < (L.length : Int) := by omega
      have hgl : g < wr.heap.size := Nat.lt_of_lt_of_le hg hsz
      have hgl' : g' < wr.heap.size := Nat.lt_of_lt_of_le hg' hsz
      clear hB hx hu hu'
      go_wp2_with fail
      refine wp_region_held_drew (S := (fun W => W.cell? ⟨g, o + k * 2, none⟩ = some (.int .i64 x0) ∧ W.cell? ⟨g, o + k * 2 + 1, none⟩ = some (.string x1) ∧ W.cell? ⟨g', o' + k * 2, none⟩ = some (.int .i64 x0) ∧ W.cell? ⟨g', o' + k * 2 + 1, none⟩ = some (.string x1) ∧ wr.heap.size ≤ W.heap.size ∧ Below wr.heap.size wr W)) (by kernel_rfl) (⟨e0, e1, d0, d1, Nat.le_refl _, (Below.refl _ _).drew⟩) (fun hHeld => ?_)
      refine wpAnyH_take (i := 0) (v := ?hv1) rfl (by kernel_rfl) (by kernel_rfl) (by kernel_rfl) (fun _ _ _ h => h) (Or.inl ⟨by kernel_rfl, ?hy1⟩) hHeld ?hr1
      case hy1 => (intro w hSw; (try dsimp only at hSw); go_simp; try with_reducible rfl)
      refine wpAnyH_take (i := 1) (v := ?hv2) rfl (by kernel_rfl) (by kernel_rfl) (by kernel_rfl) (fun _ _ _ h => h) (Or.inl ⟨by kernel_rfl, ?hy2⟩) hHeld ?hr2
      case hy2 => (intro w hSw; (try dsimp only at hSw); go_simp; try with_reducible rfl)
      refine wpAnyH_take (i := 2) (v := ?hv3) rfl (by kernel_rfl) (by kernel_rfl) (by kernel_rfl) (fun _ _ _ h => h) (Or.inl ⟨by kernel_rfl, ?hy3⟩) hHeld ?hr3
      case hy3 => (intro w hSw; (try dsimp only at hSw); go_simp; try with_reducible rfl)
      refine wpAnyH_take (i := 3) (v := ?hv4) rfl (by kernel_rfl) (by kernel_rfl) (by kernel_rfl) (fun _ _ _ h => h) (Or.inl ⟨by kernel_rfl, ?hy4⟩) hHeld ?hr4
      case hy4 => (intro w hSw; (try dsimp only at hSw); go_simp; try with_reducible rfl)
      refine wpAnyH_take (i := 4) (v := ?hv5) rfl (by kernel_rfl) (by kernel_rfl) (by kernel_rfl) (fun _ _ _ h => h) (Or.inl ⟨by kernel_rfl, ?hy5⟩) hHeld ?hr5
      case hy5 => (intro w hSw; (try dsimp only at hSw); go_simp; try with_reducible rfl)
      refine wpAnyH_take (i := 5) (v := ?hv6) rfl (by kernel_rfl) (by kernel_rfl) (by kernel_rfl) (fun _ _ _ h => h) (Or.inl ⟨by kernel_rfl, ?hy6⟩) hHeld ?hr6
      case hy6 => (intro w hSw; (try dsimp only at hSw); go_simp; try with_reducible rfl)
      refine wpAnyH_take (i := 6) (v := ?hv7) rfl (by kernel_rfl) (by kernel_rfl) (by kernel_rfl) (fun _ _ _ h => h) (Or.inl ⟨by kernel_rfl, ?hy7⟩) hHeld ?hr7
      case hy7 => (intro w hSw; (try dsimp only at hSw); go_simp; try with_reducible rfl)
      refine wpAnyH_take (i := 7) (v := ?hv8) rfl (by kernel_rfl) (by kernel_rfl) (by kernel_rfl) (fun _ _ _ h => h) (Or.inl ⟨by kernel_rfl, ?hy8⟩) hHeld ?hr8
      case hy8 => (intro w hSw; (try dsimp only at hSw); go_simp; try with_reducible rfl)
      refine rd1 8 (fun K hK => ?_)
      go_simp
      refine (eq_Frame).mono ?_
      intro e w1 h
      obtain ⟨rfl, hb⟩ := isB_elim h
      refine hK.out _ _ (⟨(hb.cell (p := ⟨g, o + k * 2, none⟩) (Nat.lt_of_lt_of_le hgl hHeld.2.2.2.2.1)).trans hHeld.1, (hb.cell (p := ⟨g, o + k * 2 + 1, none⟩) (Nat.lt_of_lt_of_le hgl hHeld.2.2.2.2.1)).trans hHeld.2.1, (hb.cell (p := ⟨g', o' + k * 2, none⟩) (Nat.lt_of_lt_of_le hgl' hHeld.2.2.2.2.1)).trans hHeld.2.2.1, (hb.cell (p := ⟨g', o' + k * 2 + 1, none⟩) (Nat.lt_of_lt_of_le hgl' hHeld.2.2.2.2.1)).trans hHeld.2.2.2.1, Nat.le_trans hHeld.2.2.2.2.1 hb.size, hHeld.2.2.2.2.2.trans (hb.mono hHeld.2.2.2.2.1)⟩) (fun hHeld => ?_)
      clear hK K h
      refine tk 9 hHeld ?_
      refine rd0 ?_
      have HB2 := Lib.hid (HB.out.trans (hHeld.2.2.2.2.2.mono hsz))
      clear hHeld
      go_wp2
      go_roundw
      case rel => exact ⟨k + 1, by omega, by go_num, HB2.out⟩
      case measure => simp [intOf]; omega
    · clear hB
      go_wp2
      go_ret
      exact ⟨rfl, HB.out⟩


set_option maxRecDepth 100000 in
set_option maxHeartbeats 3200000 in
theorem eq_LogOut {L0 : List (D_Frame)} {x1 : Int} {x2 : Int} {a0 : Option Addr} {c0 : Nat} {a0' : Option Addr} {c0' : Nat} {W : World} (h_L0 : RdSl R_Frame W W.heap.size L0 a0 c0) (h'_L0 : RdSl R_Frame W W.heap.size L0 a0' c0') : Calls Tryd.prog 13 #[.agg #[.slice a0 L0.length c0, .int .i64 x1, .int .i64 x2], .agg #[.slice a0' L0.length c0', .int .i64 x1, .int .i64 x2]] W (IsB true W) := by
  have H_L0 := Lib.hid h_L0
  have H'_L0 := Lib.hid h'_L0
  clear h_L0 h'_L0
  have HB0 := Lib.hid (show Below W.heap.size W ((W.alloc (.cells #[.slice a0 L0.length c0, .int .i64 x1, .int .i64 x2] 31)).alloc (.cells #[.slice a0' L0.length c0', .int .i64 x1, .int .i64 x2] 31)) from ((Below.refl _ _).alloc (Nat.le_refl _) _).alloc (by simp) _)
  have hP := (Blk.new W 31 #[.slice a0 L0.length c0, .int .i64 x1, .int .i64 x2]).alloc (.cells #[.slice a0' L0.length c0', .int .i64 x1, .int .i64 x2] 31)
  have hQ := Blk.new (W.alloc (.cells #[.slice a0 L0.length c0, .int .i64 x1, .int .i64 x2] 31)) 31 #[.slice a0' L0.length c0', .int .i64 x1, .int .i64 x2]
  simp only [World.size_alloc] at hP hQ
  have HP0 := Lib.hid hP
  have HQ0 := Lib.hid hQ
  have hz0 : W.heap.size ≤ ((W.alloc (.cells #[.slice a0 L0.length c0, .int .i64 x1, .int .i64 x2] 31)).alloc (.cells #[.slice a0' L0.length c0', .int .i64 x1, .int .i64 x2] 31)).heap.size := HB0.out.size
  clear hP hQ
  go_enter Tryd.func13, Tryd.ntmps13
  go_wp2_with fail
  refine (eq_FrameS ((H_L0.out.below R_Frame_ok HB0.out).more R_Frame_ok hz0) ((H'_L0.out.below R_Frame_ok HB0.out).more R_Frame_ok hz0)).mono ?_
  intro e w1 h
  obtain ⟨rfl, hb⟩ := isB_elim h
  have HP1 := Lib.hid (HP0.out.call hb)
  have HQ1 := Lib.hid (HQ0.out.call hb)
  have HB1 := Lib.hid (HB0.out.trans (hb.mono hz0))
  have hz1 : W.heap.size ≤ w1.heap.size := HB1.out.size
  clear h hb
  have p1_1 := HP1.out.at_ 1 rfl
  have q1_1 := HQ1.out.at_ 1 rfl
  have p1_2 := HP1.out.at_ 2 rfl
  have q1_2 := HQ1.out.at_ 2 rfl
  go_wp2
  all_goals
    go_ret
    exact ⟨rfl, HB1.out⟩


theorem szd_Frame {x0 : Int} {x1 : ByteArray} : R_Frame.sz (x0, x1) = x1.size := by
  simp only [R_Frame, Pr, I, Bo, St, atom] <;> omega
theorem sizz_FrameS : (R_Frame).size = 2 := rfl
theorem szd_FrameS (L : List (D_Frame)) : (Sl R_Frame).sz L = L.length + sumL (R_Frame).sz L := rfl
end Go.Proofs.YtdedomfocljhaaaDoor.RepC
