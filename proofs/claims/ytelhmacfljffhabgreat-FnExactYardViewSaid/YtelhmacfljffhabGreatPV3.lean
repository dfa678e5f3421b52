/- Of this claim's texts the part 3: NdT. -/
import Derived.Test.YtelhmacfljffhabGreatPV0
import Derived.Test.YtelhmacfljffhabGreatPV1
section
namespace Go.Proofs.YtelhmacfljffhabGreat.RepC
open Go.RowKit RowC ValC
set_option linter.unusedVariables false
set_option linter.unusedSimpArgs false
abbrev D_Span : Type := (Int) × (Int)
def R_Span : Rp D_Span := (Pr I I)
theorem R_Span_ok : Ok R_Span := (Pr_ok I_ok I_ok)
theorem rd_Span {W : World} {B : Nat} {x0 : Int} {x1 : Int} {cs : List Value} (h : R_Span.rd W B (x0, x1) cs) : cs = [.int .i64 x0, .int .i64 x1] := by
  obtain ⟨u1, v1, rfl, h1, g1⟩ := h
  obtain rfl : u1 = [_] := h1
  obtain rfl : v1 = [_] := g1
  rfl
theorem mkow_Span {W : World} {S : Nat → Prop} {x0 : Int} {x1 : Int}  : R_Span.ow W S (x0, x1) [.int .i64 x0, .int .i64 x1] := ⟨[.int .i64 x0], [.int .i64 x1], (fun _ => False), (fun _ => False), rfl, (fun k h => h.elim), (fun k h => h.elim), (fun k h h' => h.elim), rfl, rfl⟩
theorem ow0_Span {W : World} {S : Nat → Prop} {x0 : Int} {x1 : Int} {cs : List Value} (h : R_Span.ow W S (x0, x1) cs) : cs = [.int .i64 x0, .int .i64 x1] := by
  obtain ⟨u1, v1, A1, B1, rfl, sa1, sb1, dd1, h1, g1⟩ := h
  obtain rfl : u1 = [_] := h1
  obtain rfl : v1 = [_] := g1
  rfl
abbrev D_Node : Type := (Int) × (List (D_Span))
def R_Node : Rp D_Node := (Pr I (Sl R_Span))
theorem R_Node_ok : Ok R_Node := (Pr_ok I_ok (Sl_ok R_Span_ok))
theorem rd_Node {W : World} {B : Nat} {x0 : Int} {L0 : List (D_Span)} {cs : List Value} (h : R_Node.rd W B (x0, L0) cs) : ∃ a0 c0, cs = [.int .i64 x0, .slice a0 L0.length c0] ∧ RdSl R_Span W B L0 a0 c0 := by
  obtain ⟨u1, v1, rfl, h1, g1⟩ := h
  obtain rfl : u1 = [_] := h1
  obtain ⟨a0, c0, rfl, k_L0⟩ := g1
  exact ⟨a0, c0, rfl, k_L0⟩
theorem mkow_Node {W : World} {S : Nat → Prop} {x0 : Int} {L0 : List (D_Span)} {a0 : Option Addr} {c0 : Nat} {T0 : Nat → Prop} (hs0 : ∀ k, T0 k → S k) (h_L0 : OwSl R_Span W T0 L0 a0 c0) : R_Node.ow W S (x0, L0) [.int .i64 x0, .slice a0 L0.length c0] := ⟨[.int .i64 x0], [.slice a0 L0.length c0], (fun _ => False), T0, rfl, (fun k h => h.elim), (fun k h => hs0 k h), (fun k h h' => h.elim), rfl, ⟨a0, c0, rfl, h_L0⟩⟩
theorem ow_Node {W : World} {S : Nat → Prop} {x0 : Int} {L0 : List (D_Span)} {cs : List Value} (h : R_Node.ow W S (x0, L0) cs) : ∃ a0 c0, ∃ T0 : Nat → Prop, cs = [.int .i64 x0, .slice a0 L0.length c0] ∧ (∀ k, T0 k → S k) ∧ OwSl R_Span W T0 L0 a0 c0 := by
  obtain ⟨u1, v1, A1, B1, rfl, sa1, sb1, dd1, h1, g1⟩ := h
  obtain rfl : u1 = [_] := h1
  obtain ⟨a0, c0, rfl, k_L0⟩ := g1
  exact ⟨a0, c0, B1, rfl, fun k h => sb1 k (h), k_L0⟩
set_option maxRecDepth 100000 in
set_option maxHeartbeats 3200000 in
theorem to_Span {x0 : Int} {x1 : Int}  {W : World} (hsz : R_Span.sz (x0, x1) ≤ 1048576) : Calls Tryz.prog 138 #[.agg #[.int .i64 x0, .int .i64 x1]] W (NewV R_Span (x0, x1) W) := by
  have HSZ := Lib.hid hsz
  clear hsz
  go_enter Tryz.func138, Tryz.ntmps138
  go_wp2
  refine bodyPost_ret (v := .agg #[.int .i64 x0, .int .i64 x1]) (by simp [results, Tryz.results138, go_sem]) rfl ⟨[.int .i64 x0, .int .i64 x1], rfl, mkow_Span, (by repeat (first | exact Below.refl _ _ | refine Below.drew ?_ | refine Below.setCell ?_ (by first | omega | (simp; done) | (simp; omega)) _ | refine Below.alloc ?_ (by first | omega | (simp; done) | (simp; omega)) _))⟩
theorem size_SpanS : (R_Span).size = 2 := rfl
def zs_SpanS (n : Nat) : Array Value := madeCells #[.int .i64 0, .int .i64 0] (n * 2)
theorem zs_SpanS_size (n : Nat) : (zs_SpanS n).size = n * (R_Span).size := by unfold zs_SpanS; simp [madeCells, size_SpanS]
theorem make_SpanS (n : Nat) (hn : n ≤ 1048576) : ∀ W : World, (Instr.makeSlice 58 (.int .i64 (n : Int)) (.int .i64 (n : Int))).run Tryz.prog W = .ok (.slice (some ⟨W.heap.size, 0, none⟩) n n) (W.alloc (.cells (zs_SpanS n) 62)) := by
  intro W
  obtain ⟨i, hi, hz, hs, hb⟩ : ∃ i, Tryz.prog.info? 62 = some i ∧ i.zero = some (.agg #[.int .i64 0, .int .i64 0]) ∧ i.size = 2 ∧ i.bytes = 16 := by
    have h : (Tryz.prog.info? 62).map (fun i => (i.zero, i.size, i.bytes)) = some (some (.agg #[.int .i64 0, .int .i64 0]), 2, 16) := by kernel_rfl
    cases hx : Tryz.prog.info? 62 with
    | none => rw [hx] at h; simp at h
    | some i => rw [hx] at h; simp at h; exact ⟨i, rfl, h.1, h.2.1, h.2.2⟩
  have hr := run_make (P := Tryz.prog) W 58 62 i _ Tryz.underlying58 hi hz .i64 .i64 n n (by omega) (by omega) (by rw [hb]; omega) (by omega)
  rw [hs] at hr
  simp only [Int.toNat_natCast] at hr
  exact hr
set_option maxRecDepth 100000 in
set_option maxHeartbeats 3200000 in
theorem to_SpanS {L : List (D_Span)} {a : Option Addr} {cap : Nat} {W : World} (hsz : ((Sl R_Span)).sz L ≤ 1048576) (h : RdSl R_Span W W.heap.size L a cap) : Calls Tryz.prog 103 #[.slice a L.length cap] W (NewS R_Span L W) := by
  have hn : L.length ≤ 1048576 := Nat.le_trans (Nat.le_add_right _ _) hsz
  have hmk := make_SpanS L.length hn
  have H := Lib.hid h
  have HSZ := Lib.hid hsz
  clear h hsz
  go_enter Tryz.func103, Tryz.ntmps103
  go_wp2
  go_loopw [4] (fun i wr => ∃ k : Nat, k ≤ L.length ∧ i = .int .i64 k ∧ ∃ Sf, Fil R_Span W wr L W.heap.size Sf k) (fun i _ => L.length - (intOf i).toNat)
  case atStart => exact ⟨0, Nat.zero_le _, rfl, _, Fil.new (by exact zs_SpanS_size _)⟩
  case round =>
    obtain ⟨k, hk, rfl, Sf, hF⟩ := hrel
    have HF := Lib.hid hF
    by_cases hlt : k < L.length
    · obtain ⟨⟨x0, x1⟩, hx⟩ := el_some hlt
      have HX := Lib.hid hx
      obtain ⟨g, o, us, rfl, hg, hu, hr⟩ := (H.out.below R_Span_ok hF.below).at_ hx
      obtain rfl := rd_Span hr
      have e0 : wr.cell? ⟨g, o + k * 2, none⟩ = some (.int .i64 x0) := by simpa [size_SpanS, Nat.add_assoc] using hu 0 _ rfl
      have e1 : wr.cell? ⟨g, o + k * 2 + 1, none⟩ = some (.int .i64 x1) := by simpa [size_SpanS, Nat.add_assoc] using hu 1 _ rfl
      have hi0 : (0 : Int) ≤ (k : Int) := Int.natCast_nonneg _
      have hi1 : (k : Int) < (L.length : Int) := by omega
      have HE := Lib.hid (sz_at (f := (R_Span).sz) HX.out HSZ.out)
      clear hF hx hu hmk
      go_wp2_with fail
      refine (to_Span (by exact HE.out)).mono ?_
      intro e w1 h
      obtain ⟨vs, rfl, how, hb⟩ := newV_elim h
      have HOW := Lib.hid how
      obtain rfl := ow0_Span how
      have HP := Lib.hid (HF.out.put R_Span_ok HX.out hb HOW.out)
      have hlt1 := HF.out.lt
      obtain ⟨t0, ht0⟩ := HF.out.there (k * 2) (by rw [size_SpanS]; omega)
      have q0 := (hb.cell (p := ⟨W.heap.size, k * 2, none⟩) hlt1).trans ht0
      have s0 := (hb.frozen (p := ⟨W.heap.size, k * 2, none⟩) hlt1).trans (HF.out.soft (k * 2))
      obtain ⟨t1, ht1⟩ := HF.out.there (k * 2 + 1) (by rw [size_SpanS]; omega)
      have q1 := (hb.cell (p := ⟨W.heap.size, k * 2 + 1, none⟩) hlt1).trans ht1
      have s1 := (hb.frozen (p := ⟨W.heap.size, k * 2 + 1, none⟩) hlt1).trans (HF.out.soft (k * 2 + 1))
      clear h how hb ht0 ht1 e0 e1
      go_wp2
      go_roundw
      case rel => exact ⟨k + 1, by omega, by go_num, _, by simpa [putCells, size_SpanS, Nat.add_assoc] using HP.out⟩
      case measure => simp [intOf]; omega
    · obtain rfl : k = L.length := by omega
      have HR := Lib.hid (HF.out.news (by unfold maxLen; omega))
      clear hF hmk
      go_wp2
      go_ret
      exact HR.out
set_option maxRecDepth 100000 in
set_option maxHeartbeats 3200000 in
theorem to_Node {x0 : Int} {L0 : List (D_Span)} {a0 : Option Addr} {c0 : Nat} {W : World} (hsz : R_Node.sz (x0, L0) ≤ 1048576) (h_L0 : RdSl R_Span W W.heap.size L0 a0 c0) : Calls Tryz.prog 59 #[.agg #[.int .i64 x0, .slice a0 L0.length c0]] W (NewV R_Node (x0, L0) W) := by
  have H_L0 := Lib.hid h_L0
  have HSZ := Lib.hid hsz
  clear hsz h_L0
  have hP := ((Blk.new W 96 #[.int .i64 x0, .slice a0 L0.length c0]).alloc (.cells #[.int .i64 0, .slice none 0 0] 60)).alloc (.cells #[.int .i64 x0, .slice none 0 0] 60)
  have hR := (Blk.new (W.alloc (.cells #[.int .i64 x0, .slice a0 L0.length c0] 96)) 60 #[.int .i64 0, .slice none 0 0]).alloc (.cells #[.int .i64 x0, .slice none 0 0] 60)
  have hO := Blk.new ((W.alloc (.cells #[.int .i64 x0, .slice a0 L0.length c0] 96)).alloc (.cells #[.int .i64 0, .slice none 0 0] 60)) 60 #[.int .i64 x0, .slice none 0 0]
  simp only [World.size_alloc] at hP hR hO
  have HB0 := Lib.hid (show Below W.heap.size W (((W.alloc (.cells #[.int .i64 x0, .slice a0 L0.length c0] 96)).alloc (.cells #[.int .i64 0, .slice none 0 0] 60)).alloc (.cells #[.int .i64 x0, .slice none 0 0] 60)) from (((Below.refl _ _).alloc (Nat.le_refl _) _).alloc (by simp) _).alloc (by simp; omega) _)
  have hz0 : W.heap.size + 3 ≤ (((W.alloc (.cells #[.int .i64 x0, .slice a0 L0.length c0] 96)).alloc (.cells #[.int .i64 0, .slice none 0 0] 60)).alloc (.cells #[.int .i64 x0, .slice none 0 0] 60)).heap.size := by simp
  have HP0 := Lib.hid hP
  have HR0 := Lib.hid hR
  have HO0 := Lib.hid hO
  clear hP hR hO
  go_enter Tryz.func59, Tryz.ntmps59
  go_wp2_with fail
  refine (to_SpanS (by have h0 := HSZ.out; simp only [R_Node, Pr, Sl, I, Bo, atom] at h0 ⊢; omega) ((H_L0.out.below R_Span_ok HB0.out).more R_Span_ok (by have h0 := hz0; first | omega | (simp; omega)))).mono ?_
  intro e w1 h
  obtain ⟨b_L0, d_L0, rfl, how_L0, hb⟩ := newS_elim h
  have hP : Blk w1 (W.heap.size) 96 #[.int .i64 x0, .slice a0 L0.length c0] := Blk.call HP0.out hb
  have hR : Blk w1 (W.heap.size + 1) 60 #[.int .i64 0, .slice none 0 0] := Blk.call HR0.out hb
  have hO : Blk w1 (W.heap.size + 1 + 1) 60 #[.int .i64 x0, .slice none 0 0] := Blk.call HO0.out hb
  have hz1 : W.heap.size + 3 ≤ w1.heap.size := Nat.le_trans hz0 hb.size
  have HB1 := Lib.hid (Below.trans (B := W.heap.size) (a := W) HB0.out (hb.mono (by have h0 := hz0; first | omega | (simp; omega))))
  have HO_L0 := Lib.hid how_L0
  have HL_L0 := Lib.hid (fun k hk => rg_call hb (m := W.heap.size + 3) (by have h0 := hz0; first | omega | (simp; omega)) k hk)
  have HU_L0 := Lib.hid (rg_call hb (m := 0) (Nat.zero_le _))
  have HP1 := Lib.hid hP
  have HR1 := Lib.hid hR
  have HO1 := Lib.hid hO
  clear h hb hP hR hO how_L0
  have p1_0 := HP1.out.at_ 0 rfl
  have o1_0 := HO1.out.at_ 0 rfl
  have r1_0 := HR1.out.at_ 0 rfl
  have f1_0 := HO1.out.soft 0
  have g1_0 := HR1.out.soft 0
  have p1_1 := HP1.out.at_ 1 rfl
  have o1_1 := HO1.out.at_ 1 rfl
  have r1_1 := HR1.out.at_ 1 rfl
  have f1_1 := HO1.out.soft 1
  have g1_1 := HR1.out.soft 1
  go_wp2
  refine bodyPost_ret (v := .agg #[.int .i64 x0, .slice b_L0 L0.length d_L0]) (by simp [results, Tryz.results59, go_sem, *]) rfl ⟨[.int .i64 x0, .slice b_L0 L0.length d_L0], rfl, ?_, (((HB1.out.setCell (p := ⟨W.heap.size + 1 + 1, 1, none⟩) (by show W.heap.size ≤ W.heap.size + 1 + 1; omega) (.slice b_L0 L0.length d_L0)).setCell (p := ⟨W.heap.size + 1, 0, none⟩) (by show W.heap.size ≤ W.heap.size + 1; omega) (.int .i64 x0)).setCell (p := ⟨W.heap.size + 1, 1, none⟩) (by show W.heap.size ≤ W.heap.size + 1; omega) (.slice b_L0 L0.length d_L0))⟩
  have hoff := ((((Off.refl (fun x => x < W.heap.size + 3) w1).setCell (p := ⟨W.heap.size + 1 + 1, 1, none⟩) (by show W.heap.size + 1 + 1 < W.heap.size + 3; omega) (.slice b_L0 L0.length d_L0)).setCell (p := ⟨W.heap.size + 1, 0, none⟩) (by show W.heap.size + 1 < W.heap.size + 3; omega) (.int .i64 x0)).setCell (p := ⟨W.heap.size + 1, 1, none⟩) (by show W.heap.size + 1 < W.heap.size + 3; omega) (.slice b_L0 L0.length d_L0))
  have hsz := hoff.size
  exact mkow_Node (fun k hk => ⟨by have := (HL_L0.out k hk).1; omega, by have := (HL_L0.out k hk).2; omega⟩) (HO_L0.out.keep R_Span_ok (fun k hk => hoff.block k (HL_L0.out k hk).2 (by have := (HL_L0.out k hk).1; omega)))
theorem size_NodeS : (R_Node).size = 2 := rfl
def zs_NodeS (n : Nat) : Array Value := madeCells #[.int .i64 0, .slice none 0 0] (n * 2)
theorem zs_NodeS_size (n : Nat) : (zs_NodeS n).size = n * (R_Node).size := by unfold zs_NodeS; simp [madeCells, size_NodeS]
theorem make_NodeS (n : Nat) (hn : n ≤ 1048576) : ∀ W : World, (Instr.makeSlice 41 (.int .i64 (n : Int)) (.int .i64 (n : Int))).run Tryz.prog W = .ok (.slice (some ⟨W.heap.size, 0, none⟩) n n) (W.alloc (.cells (zs_NodeS n) 60)) := by
  intro W
  obtain ⟨i, hi, hz, hs, hb⟩ : ∃ i, Tryz.prog.info? 60 = some i ∧ i.zero = some (.agg #[.int .i64 0, .slice none 0 0]) ∧ i.size = 2 ∧ i.bytes = 32 := by
    have h : (Tryz.prog.info? 60).map (fun i => (i.zero, i.size, i.bytes)) = some (some (.agg #[.int .i64 0, .slice none 0 0]), 2, 32) := by kernel_rfl
    cases hx : Tryz.prog.info? 60 with
    | none => rw [hx] at h; simp at h
    | some i => rw [hx] at h; simp at h; exact ⟨i, rfl, h.1, h.2.1, h.2.2⟩
  have hr := run_make (P := Tryz.prog) W 41 60 i _ Tryz.underlying41 hi hz .i64 .i64 n n (by omega) (by omega) (by rw [hb]; omega) (by omega)
  rw [hs] at hr
  simp only [Int.toNat_natCast] at hr
  exact hr
set_option maxRecDepth 100000 in
set_option maxHeartbeats 3200000 in
theorem to_NodeS {L : List (D_Node)} {a : Option Addr} {cap : Nat} {W : World} (hsz : ((Sl R_Node)).sz L ≤ 1048576) (h : RdSl R_Node W W.heap.size L a cap) : Calls Tryz.prog 21 #[.slice a L.length cap] W (NewS R_Node L W) := by
  have hn : L.length ≤ 1048576 := Nat.le_trans (Nat.le_add_right _ _) hsz
  have hmk := make_NodeS L.length hn
  have H := Lib.hid h
  have HSZ := Lib.hid hsz
  clear h hsz
  go_enter Tryz.func21, Tryz.ntmps21
  go_wp2
  go_loopw [4] (fun i wr => ∃ k : Nat, k ≤ L.length ∧ i = .int .i64 k ∧ ∃ Sf, Fil R_Node W wr L W.heap.size Sf k) (fun i _ => L.length - (intOf i).toNat)
  case atStart => exact ⟨0, Nat.zero_le _, rfl, _, Fil.new (by exact zs_NodeS_size _)⟩
  case round =>
    obtain ⟨k, hk, rfl, Sf, hF⟩ := hrel
    have HF := Lib.hid hF
    by_cases hlt : k < L.length
    · obtain ⟨⟨x0, L0⟩, hx⟩ := el_some hlt
      have HX := Lib.hid hx
      obtain ⟨g, o, us, rfl, hg, hu, hr⟩ := (H.out.below R_Node_ok hF.below).at_ hx
      obtain ⟨a0, c0, rfl, k_L0⟩ := rd_Node hr
      have e0 : wr.cell? ⟨g, o + k * 2, none⟩ = some (.int .i64 x0) := by simpa [size_NodeS, Nat.add_assoc] using hu 0 _ rfl
      have e1 : wr.cell? ⟨g, o + k * 2 + 1, none⟩ = some (.slice a0 L0.length c0) := by simpa [size_NodeS, Nat.add_assoc] using hu 1 _ rfl
      have hi0 : (0 : Int) ≤ (k : Int) := Int.natCast_nonneg _
      have hi1 : (k : Int) < (L.length : Int) := by omega
      have HE := Lib.hid (sz_at (f := (R_Node).sz) HX.out HSZ.out)
      have HK_L0 := Lib.hid (k_L0.more R_Span_ok (Nat.le_of_lt HF.out.lt))
      clear hF hx hu hmk k_L0
      go_wp2_with fail
      refine (to_Node (by exact HE.out) (by exact HK_L0.out)).mono ?_
      intro e w1 h
      obtain ⟨vs, rfl, how, hb⟩ := newV_elim h
      have HOW := Lib.hid how
      obtain ⟨b0, d0, T0, rfl, _⟩ := ow_Node how
      have HP := Lib.hid (HF.out.put R_Node_ok HX.out hb HOW.out)
      have hlt1 := HF.out.lt
      obtain ⟨t0, ht0⟩ := HF.out.there (k * 2) (by rw [size_NodeS]; omega)
      have q0 := (hb.cell (p := ⟨W.heap.size, k * 2, none⟩) hlt1).trans ht0
      have s0 := (hb.frozen (p := ⟨W.heap.size, k * 2, none⟩) hlt1).trans (HF.out.soft (k * 2))
      obtain ⟨t1, ht1⟩ := HF.out.there (k * 2 + 1) (by rw [size_NodeS]; omega)
      have q1 := (hb.cell (p := ⟨W.heap.size, k * 2 + 1, none⟩) hlt1).trans ht1
      have s1 := (hb.frozen (p := ⟨W.heap.size, k * 2 + 1, none⟩) hlt1).trans (HF.out.soft (k * 2 + 1))
      clear h how hb ht0 ht1 e0 e1
      go_wp2
      go_roundw
      case rel => exact ⟨k + 1, by omega, by go_num, _, by simpa [putCells, size_NodeS, Nat.add_assoc] using HP.out⟩
      case measure => simp [intOf]; omega
    · obtain rfl : k = L.length := by omega
      have HR := Lib.hid (HF.out.news (by unfold maxLen; omega))
      clear hF hmk
      go_wp2
      go_ret
      exact HR.out
set_option maxRecDepth 100000 in
set_option maxHeartbeats 3200000 in
theorem eq_Span {x0 : Int} {x1 : Int}   {W : World} : Calls Tryz.prog 160 #[.agg #[.int .i64 x0, .int .i64 x1], .agg #[.int .i64 x0, .int .i64 x1]] W (IsB true W) := by
  have HB0 := Lib.hid (show Below W.heap.size W ((W.alloc (.cells #[.int .i64 x0, .int .i64 x1] 62)).alloc (.cells #[.int .i64 x0, .int .i64 x1] 62)) from ((Below.refl _ _).alloc (Nat.le_refl _) _).alloc (by simp) _)
  go_enter Tryz.func160, Tryz.ntmps160
  go_wp2
  all_goals
    go_ret
    exact ⟨rfl, HB0.out⟩
theorem sizeq_SpanS : (R_Span).size = 2 := rfl
set_option maxRecDepth 100000 in
set_option maxHeartbeats 3200000 in
theorem eq_SpanS {L : List (D_Span)} {a a' : Option Addr} {cap cap' : Nat} {W : World} (h : RdSl R_Span W W.heap.size L a cap) (h' : RdSl R_Span W W.heap.size L a' cap') : Calls Tryz.prog 133 #[.slice a L.length cap, .slice a' L.length cap'] W (IsB true W) := by
  have hn : L.length ≤ 9223372036854775807 := by have h1 := h.1; have h2 := h.2.1; unfold maxLen at h2; omega
  have H := Lib.hid h
  have H' := Lib.hid h'
  clear h h'
  go_enter Tryz.func133, Tryz.ntmps133
  go_wp2
  go_loopw [5] (fun i wr => ∃ k : Nat, k ≤ L.length ∧ i = .int .i64 k ∧ Below W.heap.size W wr) (fun i _ => L.length - (intOf i).toNat)
  case atStart => exact ⟨0, Nat.zero_le _, rfl, Below.refl _ _⟩
  case round =>
    obtain ⟨k, hk, rfl, hB⟩ := hrel
    have HB := Lib.hid hB
    have hsz := hB.size
    by_cases hlt : k < L.length
    · obtain ⟨⟨x0, x1⟩, hx⟩ := el_some hlt
      have HX := Lib.hid hx
      obtain ⟨g, o, us, rfl, hg, hu, hr⟩ := (H.out.below R_Span_ok hB).at_ hx
      obtain ⟨g', o', vs, rfl, hg', hu', hr'⟩ := (H'.out.below R_Span_ok hB).at_ hx
      obtain rfl := rd_Span hr
      obtain rfl := rd_Span hr'
      have e0 : wr.cell? ⟨g, o + k * 2, none⟩ = some (.int .i64 x0) := by simpa [sizeq_SpanS, Nat.add_assoc] using hu 0 _ rfl
      have d0 : wr.cell? ⟨g', o' + k * 2, none⟩ = some (.int .i64 x0) := by simpa [sizeq_SpanS, Nat.add_assoc] using hu' 0 _ rfl
      have e1 : wr.cell? ⟨g, o + k * 2 + 1, none⟩ = some (.int .i64 x1) := by simpa [sizeq_SpanS, Nat.add_assoc] using hu 1 _ rfl
      have d1 : wr.cell? ⟨g', o' + k * 2 + 1, none⟩ = some (.int .i64 x1) := by simpa [sizeq_SpanS, Nat.add_assoc] using hu' 1 _ rfl
      have hi0 : (0 : Int) ≤ (k : Int) := Int.natCast_nonneg _
      have hi1 : (k : Int) < (L.length : Int) := by omega
      have hgl : g < wr.heap.size := Nat.lt_of_lt_of_le hg hsz
      have hgl' : g' < wr.heap.size := Nat.lt_of_lt_of_le hg' hsz
      clear hB hx hu hu'
      go_wp2_with fail
      refine wp_region_held_drew (S := (fun W => W.cell? ⟨g, o + k * 2, none⟩ = some (.int .i64 x0) ∧ W.cell? ⟨g, o + k * 2 + 1, none⟩ = some (.int .i64 x1) ∧ W.cell? ⟨g', o' + k * 2, none⟩ = some (.int .i64 x0) ∧ W.cell? ⟨g', o' + k * 2 + 1, none⟩ = some (.int .i64 x1) ∧ wr.heap.size ≤ W.heap.size ∧ Below wr.heap.size wr W)) (by kernel_rfl) (⟨e0, e1, d0, d1, Nat.le_refl _, (Below.refl _ _).drew⟩) (fun hHeld => ?_)
      refine wpAnyH_take (i := 0) (v := ?hv1) rfl (by kernel_rfl) (by kernel_rfl) (by kernel_rfl) (fun _ _ _ h => h) (Or.inl ⟨by kernel_rfl, ?hy1⟩) hHeld ?hr1
      case hy1 => (intro w hSw; (try dsimp only at hSw); go_simp; try with_reducible rfl)
      refine wpAnyH_take (i := 1) (v := ?hv2) rfl (by kernel_rfl) (by kernel_rfl) (by kernel_rfl) (fun _ _ _ h => h) (Or.inl ⟨by kernel_rfl, ?hy2⟩) hHeld ?hr2
      case hy2 => (intro w hSw; (try dsimp only at hSw); go_simp; try with_reducible rfl)
      refine wpAnyH_take (i := 2) (v := ?hv3) rfl (by kernel_rfl) (by kernel_rfl) (by kernel_rfl) (fun _ _ _ h => h) (Or.inl ⟨by kernel_rfl, ?hy3⟩) hHeld ?hr3
      case hy3 => (intro w hSw; (try dsimp only at hSw); go_simp; try with_reducible rfl)
      refine wpAnyH_take (i := 3) (v := ?hv4) rfl (by kernel_rfl) (by kernel_rfl) (by kernel_rfl) (fun _ _ _ h => h) (Or.inl ⟨by kernel_rfl, ?hy4⟩) hHeld ?hr4
      case hy4 => (intro w hSw; (try dsimp only at hSw); go_simp; try with_reducible rfl)
      refine wpAnyH_take (i := 4) (v := ?hv5) rfl (by kernel_rfl) (by kernel_rfl) (by kernel_rfl) (fun _ _ _ h => h) (Or.inl ⟨by kernel_rfl, ?hy5⟩) hHeld ?hr5
      case hy5 => (intro w hSw; (try dsimp only at hSw); go_simp; try with_reducible rfl)
      refine wpAnyH_take (i := 5) (v := ?hv6) rfl (by kernel_rfl) (by kernel_rfl) (by kernel_rfl) (fun _ _ _ h => h) (Or.inl ⟨by kernel_rfl, ?hy6⟩) hHeld ?hr6
      case hy6 => (intro w hSw; (try dsimp only at hSw); go_simp; try with_reducible rfl)
      refine wpAnyH_take (i := 6) (v := ?hv7) rfl (by kernel_rfl) (by kernel_rfl) (by kernel_rfl) (fun _ _ _ h => h) (Or.inl ⟨by kernel_rfl, ?hy7⟩) hHeld ?hr7
      case hy7 => (intro w hSw; (try dsimp only at hSw); go_simp; try with_reducible rfl)
      refine wpAnyH_take (i := 7) (v := ?hv8) rfl (by kernel_rfl) (by kernel_rfl) (by kernel_rfl) (fun _ _ _ h => h) (Or.inl ⟨by kernel_rfl, ?hy8⟩) hHeld ?hr8
      case hy8 => (intro w hSw; (try dsimp only at hSw); go_simp; try with_reducible rfl)
      refine rd1 8 (fun K hK => ?_)
      go_simp
      refine (eq_Span).mono ?_
      intro e w1 h
      obtain ⟨rfl, hb⟩ := isB_elim h
      refine hK.out _ _ (⟨(hb.cell (p := ⟨g, o + k * 2, none⟩) (Nat.lt_of_lt_of_le hgl hHeld.2.2.2.2.1)).trans hHeld.1, (hb.cell (p := ⟨g, o + k * 2 + 1, none⟩) (Nat.lt_of_lt_of_le hgl hHeld.2.2.2.2.1)).trans hHeld.2.1, (hb.cell (p := ⟨g', o' + k * 2, none⟩) (Nat.lt_of_lt_of_le hgl' hHeld.2.2.2.2.1)).trans hHeld.2.2.1, (hb.cell (p := ⟨g', o' + k * 2 + 1, none⟩) (Nat.lt_of_lt_of_le hgl' hHeld.2.2.2.2.1)).trans hHeld.2.2.2.1, Nat.le_trans hHeld.2.2.2.2.1 hb.size, hHeld.2.2.2.2.2.trans (hb.mono hHeld.2.2.2.2.1)⟩) (fun hHeld => ?_)
      clear hK K h
      refine tk 9 hHeld ?_
      refine rd0 ?_
      have HB2 := Lib.hid (HB.out.trans (hHeld.2.2.2.2.2.mono hsz))
      clear hHeld
      go_wp2
      go_roundw
      case rel => exact ⟨k + 1, by omega, by go_num, HB2.out⟩
      case measure => simp [intOf]; omega
    · clear hB
      go_wp2
      go_ret
      exact ⟨rfl, HB.out⟩
set_option maxRecDepth 100000 in
set_option maxHeartbeats 3200000 in
theorem eq_Node {x0 : Int} {L0 : List (D_Span)} {a0 : Option Addr} {c0 : Nat} {a0' : Option Addr} {c0' : Nat} {W : World} (h_L0 : RdSl R_Span W W.heap.size L0 a0 c0) (h'_L0 : RdSl R_Span W W.heap.size L0 a0' c0') : Calls Tryz.prog 78 #[.agg #[.int .i64 x0, .slice a0 L0.length c0], .agg #[.int .i64 x0, .slice a0' L0.length c0']] W (IsB true W) := by
  have H_L0 := Lib.hid h_L0
  have H'_L0 := Lib.hid h'_L0
  clear h_L0 h'_L0
  have HB0 := Lib.hid (show Below W.heap.size W ((W.alloc (.cells #[.int .i64 x0, .slice a0 L0.length c0] 60)).alloc (.cells #[.int .i64 x0, .slice a0' L0.length c0'] 60)) from ((Below.refl _ _).alloc (Nat.le_refl _) _).alloc (by simp) _)
  have hP := (Blk.new W 60 #[.int .i64 x0, .slice a0 L0.length c0]).alloc (.cells #[.int .i64 x0, .slice a0' L0.length c0'] 60)
  have hQ := Blk.new (W.alloc (.cells #[.int .i64 x0, .slice a0 L0.length c0] 60)) 60 #[.int .i64 x0, .slice a0' L0.length c0']
  simp only [World.size_alloc] at hP hQ
  have HP0 := Lib.hid hP
  have HQ0 := Lib.hid hQ
  have hz0 : W.heap.size ≤ ((W.alloc (.cells #[.int .i64 x0, .slice a0 L0.length c0] 60)).alloc (.cells #[.int .i64 x0, .slice a0' L0.length c0'] 60)).heap.size := HB0.out.size
  clear hP hQ
  go_enter Tryz.func78, Tryz.ntmps78
  go_wp2_with fail
  refine (eq_SpanS ((H_L0.out.below R_Span_ok HB0.out).more R_Span_ok hz0) ((H'_L0.out.below R_Span_ok HB0.out).more R_Span_ok hz0)).mono ?_
  intro e w1 h
  obtain ⟨rfl, hb⟩ := isB_elim h
  have HP1 := Lib.hid (HP0.out.call hb)
  have HQ1 := Lib.hid (HQ0.out.call hb)
  have HB1 := Lib.hid (HB0.out.trans (hb.mono hz0))
  have hz1 : W.heap.size ≤ w1.heap.size := HB1.out.size
  clear h hb
  go_wp2
  all_goals
    go_ret
    exact ⟨rfl, HB1.out⟩
theorem sizeq_NodeS : (R_Node).size = 2 := rfl
set_option maxRecDepth 100000 in
set_option maxHeartbeats 3200000 in
theorem eq_NodeS {L : List (D_Node)} {a a' : Option Addr} {cap cap' : Nat} {W : World} (h : RdSl R_Node W W.heap.size L a cap) (h' : RdSl R_Node W W.heap.size L a' cap') : Calls Tryz.prog 34 #[.slice a L.length cap, .slice a' L.length cap'] W (IsB true W) := by
  have hn : L.length ≤ 9223372036854775807 := by have h1 := h.1; have h2 := h.2.1; unfold maxLen at h2; omega
  have H := Lib.hid h
  have H' := Lib.hid h'
  clear h h'
  go_enter Tryz.func34, Tryz.ntmps34
  go_wp2
  go_loopw [5] (fun i wr => ∃ k : Nat, k ≤ L.length ∧ i = .int .i64 k ∧ Below W.heap.size W wr) (fun i _ => L.length - (intOf i).toNat)
  case atStart => exact ⟨0, Nat.zero_le _, rfl, Below.refl _ _⟩
  case round =>
    obtain ⟨k, hk, rfl, hB⟩ := hrel
    have HB := Lib.hid hB
    have hsz := hB.size
    by_cases hlt : k < L.length
    · obtain ⟨⟨x0, L0⟩, hx⟩ := el_some hlt
      have HX := Lib.hid hx
      obtain ⟨g, o, us, rfl, hg, hu, hr⟩ := (H.out.below R_Node_ok hB).at_ hx
      obtain ⟨g', o', vs, rfl, hg', hu', hr'⟩ := (H'.out.below R_Node_ok hB).at_ hx
      obtain ⟨a0, c0, rfl, k_L0⟩ := rd_Node hr
      obtain ⟨a0', c0', rfl, k'_L0⟩ := rd_Node hr'
      have e0 : wr.cell? ⟨g, o + k * 2, none⟩ = some (.int .i64 x0) := by simpa [sizeq_NodeS, Nat.add_assoc] using hu 0 _ rfl
      have d0 : wr.cell? ⟨g', o' + k * 2, none⟩ = some (.int .i64 x0) := by simpa [sizeq_NodeS, Nat.add_assoc] using hu' 0 _ rfl
      have e1 : wr.cell? ⟨g, o + k * 2 + 1, none⟩ = some (.slice a0 L0.length c0) := by simpa [sizeq_NodeS, Nat.add_assoc] using hu 1 _ rfl
      have d1 : wr.cell? ⟨g', o' + k * 2 + 1, none⟩ = some (.slice a0' L0.length c0') := by simpa [sizeq_NodeS, Nat.add_assoc] using hu' 1 _ rfl
      have hi0 : (0 : Int) ≤ (k : Int) := Int.natCast_nonneg _
      have hi1 : (k : Int) < (L.length : Int) := by omega
      have hgl : g < wr.heap.size := Nat.lt_of_lt_of_le hg hsz
      have hgl' : g' < wr.heap.size := Nat.lt_of_lt_of_le hg' hsz
      have K_L0 := Lib.hid (k_L0.more R_Span_ok hsz)
      have K'_L0 := Lib.hid (k'_L0.more R_Span_ok hsz)
      clear hB hx hu hu' k_L0 k'_L0
      go_wp2_with fail
      refine wp_region_held_drew (S := (fun W => W.cell? ⟨g, o + k * 2, none⟩ = some (.int .i64 x0) ∧ W.cell? ⟨g, o + k * 2 + 1, none⟩ = some (.slice a0 L0.length c0) ∧ W.cell? ⟨g', o' + k * 2, none⟩ = some (.int .i64 x0) ∧ W.cell? ⟨g', o' + k * 2 + 1, none⟩ = some (.slice a0' L0.length c0') ∧ wr.heap.size ≤ W.heap.size ∧ Below wr.heap.size wr W)) (by kernel_rfl) (⟨e0, e1, d0, d1, Nat.le_refl _, (Below.refl _ _).drew⟩) (fun hHeld => ?_)
      refine wpAnyH_take (i := 0) (v := ?hv10) rfl (by kernel_rfl) (by kernel_rfl) (by kernel_rfl) (fun _ _ _ h => h) (Or.inl ⟨by kernel_rfl, ?hy10⟩) hHeld ?hr10
      case hy10 => (intro w hSw; (try dsimp only at hSw); go_simp; try with_reducible rfl)
      refine wpAnyH_take (i := 1) (v := ?hv11) rfl (by kernel_rfl) (by kernel_rfl) (by kernel_rfl) (fun _ _ _ h => h) (Or.inl ⟨by kernel_rfl, ?hy11⟩) hHeld ?hr11
      case hy11 => (intro w hSw; (try dsimp only at hSw); go_simp; try with_reducible rfl)
      refine wpAnyH_take (i := 2) (v := ?hv12) rfl (by kernel_rfl) (by kernel_rfl) (by kernel_rfl) (fun _ _ _ h => h) (Or.inl ⟨by kernel_rfl, ?hy12⟩) hHeld ?hr12
      case hy12 => (intro w hSw; (try dsimp only at hSw); go_simp; try with_reducible rfl)
      refine wpAnyH_take (i := 3) (v := ?hv13) rfl (by kernel_rfl) (by kernel_rfl) (by kernel_rfl) (fun _ _ _ h => h) (Or.inl ⟨by kernel_rfl, ?hy13⟩) hHeld ?hr13
      case hy13 => (intro w hSw; (try dsimp only at hSw); go_simp; try with_reducible rfl)
      refine wpAnyH_take (i := 4) (v := ?hv14) rfl (by kernel_rfl) (by kernel_rfl) (by kernel_rfl) (fun _ _ _ h => h) (Or.inl ⟨by kernel_rfl, ?hy14⟩) hHeld ?hr14
      case hy14 => (intro w hSw; (try dsimp only at hSw); go_simp; try with_reducible rfl)
      refine wpAnyH_take (i := 5) (v := ?hv15) rfl (by kernel_rfl) (by kernel_rfl) (by kernel_rfl) (fun _ _ _ h => h) (Or.inl ⟨by kernel_rfl, ?hy15⟩) hHeld ?hr15
      case hy15 => (intro w hSw; (try dsimp only at hSw); go_simp; try with_reducible rfl)
      refine wpAnyH_take (i := 6) (v := ?hv16) rfl (by kernel_rfl) (by kernel_rfl) (by kernel_rfl) (fun _ _ _ h => h) (Or.inl ⟨by kernel_rfl, ?hy16⟩) hHeld ?hr16
      case hy16 => (intro w hSw; (try dsimp only at hSw); go_simp; try with_reducible rfl)
      refine wpAnyH_take (i := 7) (v := ?hv17) rfl (by kernel_rfl) (by kernel_rfl) (by kernel_rfl) (fun _ _ _ h => h) (Or.inl ⟨by kernel_rfl, ?hy17⟩) hHeld ?hr17
      case hy17 => (intro w hSw; (try dsimp only at hSw); go_simp; try with_reducible rfl)
      refine rd1 8 (fun K hK => ?_)
      go_simp
      refine (eq_Node ((K_L0.out.below R_Span_ok (by exact hHeld.2.2.2.2.2)).more R_Span_ok (by exact hHeld.2.2.2.2.1)) ((K'_L0.out.below R_Span_ok (by exact hHeld.2.2.2.2.2)).more R_Span_ok (by exact hHeld.2.2.2.2.1))).mono ?_
      intro e w1 h
      obtain ⟨rfl, hb⟩ := isB_elim h
      refine hK.out _ _ (⟨(hb.cell (p := ⟨g, o + k * 2, none⟩) (Nat.lt_of_lt_of_le hgl hHeld.2.2.2.2.1)).trans hHeld.1, (hb.cell (p := ⟨g, o + k * 2 + 1, none⟩) (Nat.lt_of_lt_of_le hgl hHeld.2.2.2.2.1)).trans hHeld.2.1, (hb.cell (p := ⟨g', o' + k * 2, none⟩) (Nat.lt_of_lt_of_le hgl' hHeld.2.2.2.2.1)).trans hHeld.2.2.1, (hb.cell (p := ⟨g', o' + k * 2 + 1, none⟩) (Nat.lt_of_lt_of_le hgl' hHeld.2.2.2.2.1)).trans hHeld.2.2.2.1, Nat.le_trans hHeld.2.2.2.2.1 hb.size, hHeld.2.2.2.2.2.trans (hb.mono hHeld.2.2.2.2.1)⟩) (fun hHeld => ?_)
      clear hK K h
      refine wpAnyH_take (i := 9) (v := ?hv18) rfl (by kernel_rfl) (by kernel_rfl) (by kernel_rfl) (fun _ _ _ h => h) (Or.inl ⟨by kernel_rfl, ?hy18⟩) hHeld ?hr18
      case hy18 => (intro w hSw; (try dsimp only at hSw); go_simp; try with_reducible rfl)
      refine rd0 ?_
      have HB2 := Lib.hid (HB.out.trans (hHeld.2.2.2.2.2.mono hsz))
      clear hHeld
      go_wp2
      go_roundw
      case rel => exact ⟨k + 1, by omega, by go_num, HB2.out⟩
      case measure => simp [intOf]; omega
    · clear hB
      go_wp2
      go_ret
      exact ⟨rfl, HB.out⟩
theorem flat_SpanS (L : List (D_Span)) : (Sl R_Span).sz L = L.length := by
  have : sumL (R_Span).sz L = 0 := sumL_zero (fun _ => rfl) L
  simp only [Sl, this, Nat.add_zero]
set_option maxRecDepth 100000 in
theorem sz_SpanS {L : List (D_Span)} {a : Option Addr} {cap : Nat} {W : World} {l : Int} (h0 : 0 ≤ l) (h1 : l ≤ 1048576) (h : RdSl R_Span W W.heap.size L a cap) : Calls Tryz.prog 82 #[.slice a L.length cap, .int .i64 l] W (SzC l ((Sl R_Span).sz L) W) := by
  have hn : L.length ≤ 9223372036854775807 := by have h1 := h.1; have h2 := h.2.1; unfold maxLen at h2; omega
  rw [flat_SpanS]
  clear h
  by_cases hf : (L.length : Int) ≤ l
  · have HR := Lib.hid (szR_yes hf)
    go_enter Tryz.func82, Tryz.ntmps82
    go_wp2
    go_ret
    exact ⟨by first | (rw [HR.out]; done) | (rw [HR.out]; rfl), Below.refl _ _⟩
  · have HR := Lib.hid (szR_no hf)
    go_enter Tryz.func82, Tryz.ntmps82
    go_wp2
    go_ret
    exact ⟨by first | (rw [HR.out]; done) | (rw [HR.out]; rfl), Below.refl _ _⟩
theorem szd_Node {x0 : Int} {L0 : List (D_Span)} : R_Node.sz (x0, L0) = (((Sl R_Span)).sz L0) := by
  simp only [R_Node, Pr, I, Bo, atom]; omega
set_option maxRecDepth 100000 in
set_option maxHeartbeats 1600000 in
theorem sz_Node {x0 : Int} {L0 : List (D_Span)} {a0 : Option Addr} {c0 : Nat} {W : World} {l : Int} (h0 : 0 ≤ l) (h1 : l ≤ 1048576) (h_L0 : RdSl R_Span W W.heap.size L0 a0 c0) : Calls Tryz.prog 40 #[.agg #[.int .i64 x0, .slice a0 L0.length c0], .int .i64 l] W (SzC l (R_Node.sz (x0, L0)) W) := by
  have H_L0 := Lib.hid h_L0
  clear h_L0
  have HD := Lib.hid (szd_Node (x0 := x0) (L0 := L0))
  have HB0 := Lib.hid (show Below W.heap.size W (W.alloc (.cells #[.int .i64 x0, .slice a0 L0.length c0] 96)) from (Below.refl _ _).alloc (Nat.le_refl _) _)
  have hP := Blk.new W 96 #[.int .i64 x0, .slice a0 L0.length c0]
  have HP0 := Lib.hid hP
  have hz0 : W.heap.size ≤ (W.alloc (.cells #[.int .i64 x0, .slice a0 L0.length c0] 96)).heap.size := HB0.out.size
  clear hP
  obtain ⟨s0, hs0⟩ : ∃ s, s = (((Sl R_Span)).sz L0) := ⟨_, rfl⟩
  have HS0 := Lib.hid hs0
  rw [← hs0] at HD
  clear hs0
  go_enter Tryz.func40, Tryz.ntmps40
  go_wp2_with fail
  refine (sz_SpanS (l := l) (by omega) (by omega) ((H_L0.out.below R_Span_ok HB0.out).more R_Span_ok hz0)).mono ?_
  intro e w1 h
  obtain ⟨rfl, hb⟩ := szC_elim h
  rw [← HS0.out]
  have HP1 := Lib.hid (HP0.out.call hb)
  have HB1 := Lib.hid (HB0.out.trans (hb.mono hz0))
  have hz1 : W.heap.size ≤ w1.heap.size := HB1.out.size
  clear h hb
  have p1_1 := HP1.out.at_ 1 rfl
  by_cases hf0 : (s0 : Int) ≤ l
  rotate_left
  · rw [szR_no hf0]
    have HR := Lib.hid (szR_no (l := l) (s := R_Node.sz (x0, L0)) (by rw [HD.out]; omega))
    go_wp2
    go_ret
    exact ⟨by first | (rw [HR.out]; done) | (rw [HR.out]; rfl), HB1.out⟩
  rw [szR_yes hf0]
  have hpos0 : (0 : Int) ≤ l - (s0 : Nat) := by omega
  have HR := Lib.hid (szR_yes (l := l) (s := R_Node.sz (x0, L0)) (by rw [HD.out]; omega))
  go_wp2
  go_ret
  exact ⟨by rw [HR.out, HD.out]; first | rfl | (simp; done) | (simp; omega), HB1.out⟩
theorem sizz_NodeS : (R_Node).size = 2 := rfl
theorem szd_NodeS (L : List (D_Node)) : (Sl R_Node).sz L = L.length + sumL (R_Node).sz L := rfl
set_option maxRecDepth 100000 in
set_option maxHeartbeats 1600000 in
theorem sz_NodeS {L : List (D_Node)} {a : Option Addr} {cap : Nat} {W : World} {l : Int} (h0 : 0 ≤ l) (h1 : l ≤ 1048576) (h : RdSl R_Node W W.heap.size L a cap) : Calls Tryz.prog 11 #[.slice a L.length cap, .int .i64 l] W (SzC l ((Sl R_Node).sz L) W) := by
  have hn : L.length ≤ 9223372036854775807 := by have h1 := h.1; have h2 := h.2.1; unfold maxLen at h2; omega
  have H := Lib.hid h
  have HD := Lib.hid (szd_NodeS L)
  clear h
  by_cases hlen : (L.length : Int) ≤ l
  · go_enter Tryz.func11, Tryz.ntmps11
    go_wp2
    go_loopw [5, 1] (fun i q wr => ∃ k : Nat, k ≤ L.length ∧ i = .int .i64 k ∧ (L.length : Int) + (sumL (R_Node).sz (L.take k) : Nat) ≤ l ∧ q = .int .i64 (l - L.length - (sumL (R_Node).sz (L.take k) : Nat)) ∧ Below W.heap.size W wr) (fun i _ _ => L.length - (intOf i).toNat)
    case atStart => exact ⟨0, Nat.zero_le _, rfl, by simpa [sumL] using hlen, by simp [sumL], Below.refl _ _⟩
    case round =>
      obtain ⟨k, hk, rfl, hfit, rfl, hB⟩ := hrel
      have HB := Lib.hid hB
      have hsz := hB.size
      have hle := sumL_take_le (R_Node).sz L k
      by_cases hlt : k < L.length
      · obtain ⟨⟨x0, L0⟩, hx⟩ := el_some hlt
        have HS := Lib.hid (sumL_take (R_Node).sz hx)
        have hle2 := sumL_take_le (R_Node).sz L (k + 1)
        obtain ⟨g, o, us, rfl, hg, hu, hr⟩ := (H.out.below R_Node_ok hB).at_ hx
        obtain ⟨a0, c0, rfl, k_L0⟩ := rd_Node hr
        have e0 : wr.cell? ⟨g, o + k * 2, none⟩ = some (.int .i64 x0) := by simpa [sizz_NodeS, Nat.add_assoc] using hu 0 _ rfl
        have e1 : wr.cell? ⟨g, o + k * 2 + 1, none⟩ = some (.slice a0 L0.length c0) := by simpa [sizz_NodeS, Nat.add_assoc] using hu 1 _ rfl
        have K_L0 := Lib.hid (k_L0.more R_Span_ok hsz)
        obtain ⟨q, hq⟩ : ∃ q, q = sumL (R_Node).sz (L.take k) := ⟨_, rfl⟩
        obtain ⟨p, hp⟩ : ∃ p, p = (R_Node).sz (x0, L0) := ⟨_, rfl⟩
        rw [← hq] at hfit hle HS
        rw [← hp] at HS
        have HQ := Lib.hid hq
        have HP := Lib.hid hp
        have hi0 : (0 : Int) ≤ (k : Int) := Int.natCast_nonneg _
        have hi1 : (k : Int) < (L.length : Int) := by omega
        have hgl : g < wr.heap.size := Nat.lt_of_lt_of_le hg hsz
        have hle3 : q + p ≤ sumL (R_Node).sz L := by rw [← HS.out]; exact hle2
        rw [← hq]
        clear hB hx hu k_L0 hq hp hle2
        go_wp2_with fail
        refine (sz_Node (by omega) (by omega) K_L0.out).mono ?_
        intro e w1 h
        obtain ⟨rfl, hb⟩ := szC_elim h
        rw [← HP.out]
        have HB2 := Lib.hid (HB.out.trans (hb.mono hsz))
        clear h hb
        by_cases hf : (p : Int) ≤ l - L.length - (q : Nat)
        · rw [szR_yes hf]
          have hpos : (0 : Int) ≤ l - L.length - (q : Nat) - (p : Nat) := by omega
          go_wp2
          go_roundw
          case rel => exact ⟨k + 1, by omega, by go_num, by rw [HS.out]; omega, by rw [HS.out]; congr 1; omega, HB2.out⟩
          case measure => simp [intOf]; omega
        · rw [szR_no hf]
          have HR := Lib.hid (szR_no (l := l) (s := (Sl R_Node).sz L) (by rw [HD.out]; omega))
          go_wp2
          go_ret
          exact ⟨by first | (rw [HR.out]; done) | (rw [HR.out]; rfl), HB2.out⟩
      · obtain rfl : k = L.length := by omega
        have HR := Lib.hid (szR_yes (l := l) (s := (Sl R_Node).sz L) (by rw [HD.out]; rw [List.take_length] at hfit; omega))
        have HT := Lib.hid (show L.take L.length = L from List.take_length)
        clear hB
        go_wp2
        go_ret
        exact ⟨by rw [HR.out, HD.out, ← HT.out]; first | rfl | (simp; done) | (simp; omega), HB.out⟩
  · have HR := Lib.hid (szR_no (l := l) (s := (Sl R_Node).sz L) (by rw [HD.out]; omega))
    go_enter Tryz.func11, Tryz.ntmps11
    go_wp2
    go_ret
    exact ⟨by first | (rw [HR.out]; done) | (rw [HR.out]; rfl), Below.refl _ _⟩
end Go.Proofs.YtelhmacfljffhabGreat.RepC
end
