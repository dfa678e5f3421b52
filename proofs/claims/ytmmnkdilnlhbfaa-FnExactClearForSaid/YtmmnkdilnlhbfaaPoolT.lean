/- The laws' data: contracts. -/
import Derived.Test.YtmmnkdilnlhbfaaTk
import Derived.Test.YtmmnkdilnlhbfaaJobT
namespace Go.Proofs.Ytmmnkdilnlhbfaa.RepC
open Go.RowKit RowC ValC
set_option linter.unusedVariables false
set_option linter.unusedSimpArgs false

abbrev D_Pool : Type := (List (List (D_Label))) × (List (D_Job)) × (Int)
def R_Pool : Rp D_Pool := (Pr (Sl (Sl R_Label)) (Pr (Sl R_Job) I))
theorem R_Pool_ok : Ok R_Pool := (Pr_ok (Sl_ok (Sl_ok R_Label_ok)) (Pr_ok (Sl_ok R_Job_ok) I_ok))
theorem rd_Pool {W : World} {B : Nat} {L0 : List (List (D_Label))} {L1 : List (D_Job)} {x2 : Int} {cs : List Value} (h : R_Pool.rd W B (L0, L1, x2) cs) : ∃ a0 c0 a1 c1, cs = [.slice a0 L0.length c0, .slice a1 L1.length c1, .int .i64 x2] ∧ RdSl (Sl R_Label) W B L0 a0 c0 ∧ RdSl R_Job W B L1 a1 c1 := by
  obtain ⟨u1, v1, rfl, h1, g1⟩ := h
  obtain ⟨a0, c0, rfl, k_L0⟩ := h1
  obtain ⟨u2, v2, rfl, h2, g2⟩ := g1
  obtain ⟨a1, c1, rfl, k_L1⟩ := h2
  obtain rfl : v2 = [_] := g2
  exact ⟨a0, c0, a1, c1, rfl, k_L0, k_L1⟩
theorem mkrd_Pool {W : World} {B : Nat} {L0 : List (List (D_Label))} {L1 : List (D_Job)} {x2 : Int} {a0 : Option Addr} {c0 : Nat} {a1 : Option Addr} {c1 : Nat} (h_L0 : RdSl (Sl R_Label) W B L0 a0 c0) (h_L1 : RdSl R_Job W B L1 a1 c1) : R_Pool.rd W B (L0, L1, x2) [.slice a0 L0.length c0, .slice a1 L1.length c1, .int .i64 x2] := ⟨[.slice a0 L0.length c0], [.slice a1 L1.length c1, .int .i64 x2], rfl, ⟨a0, c0, rfl, h_L0⟩, ⟨[.slice a1 L1.length c1], [.int .i64 x2], rfl, ⟨a1, c1, rfl, h_L1⟩, rfl⟩⟩
theorem mkow_Pool {W : World} {S : Nat → Prop} {L0 : List (List (D_Label))} {L1 : List (D_Job)} {x2 : Int} {a0 : Option Addr} {c0 : Nat} {a1 : Option Addr} {c1 : Nat} {T0 : Nat → Prop} {T1 : Nat → Prop} (hs0 : ∀ k, T0 k → S k) (hs1 : ∀ k, T1 k → S k) (hd0_1 : ∀ k, T0 k → ¬ T1 k) (h_L0 : OwSl (Sl R_Label) W T0 L0 a0 c0) (h_L1 : OwSl R_Job W T1 L1 a1 c1) : R_Pool.ow W S (L0, L1, x2) [.slice a0 L0.length c0, .slice a1 L1.length c1, .int .i64 x2] := ⟨[.slice a0 L0.length c0], [.slice a1 L1.length c1, .int .i64 x2], T0, T1, rfl, (fun k h => hs0 k h), (fun k h => hs1 k h), hd0_1, ⟨a0, c0, rfl, h_L0⟩, ⟨[.slice a1 L1.length c1], [.int .i64 x2], T1, (fun _ => False), rfl, (fun k h => h), (fun k h => h.elim), (fun k h h' => h'.elim), ⟨a1, c1, rfl, h_L1⟩, rfl⟩⟩
theorem ow_Pool {W : World} {S : Nat → Prop} {L0 : List (List (D_Label))} {L1 : List (D_Job)} {x2 : Int} {cs : List Value} (h : R_Pool.ow W S (L0, L1, x2) cs) : ∃ a0 c0 a1 c1, ∃ T0 T1 : Nat → Prop, cs = [.slice a0 L0.length c0, .slice a1 L1.length c1, .int .i64 x2] ∧ (∀ k, T0 k → S k) ∧ (∀ k, T1 k → S k) ∧ (∀ k, T0 k → ¬ T1 k) ∧ OwSl (Sl R_Label) W T0 L0 a0 c0 ∧ OwSl R_Job W T1 L1 a1 c1 := by
  obtain ⟨u1, v1, A1, B1, rfl, sa1, sb1, dd1, h1, g1⟩ := h
  obtain ⟨a0, c0, rfl, k_L0⟩ := h1
  obtain ⟨u2, v2, A2, B2, rfl, sa2, sb2, dd2, h2, g2⟩ := g1
  obtain ⟨a1, c1, rfl, k_L1⟩ := h2
  obtain rfl : v2 = [_] := g2
  exact ⟨a0, c0, a1, c1, A1, A2, rfl, fun k h => sa1 k (h), fun k h => sb1 k (sa2 k (h)), fun k h h' => dd1 k (h) (sa2 k (h')), k_L0, k_L1⟩

abbrev D_PoolOut : Type := (D_Pool) × (Int) × (Int)
def R_PoolOut : Rp D_PoolOut := (Pr R_Pool (Pr I I))
theorem R_PoolOut_ok : Ok R_PoolOut := (Pr_ok R_Pool_ok (Pr_ok I_ok I_ok))
theorem rd_PoolOut {W : World} {B : Nat} {L0 : List (List (D_Label))} {L1 : List (D_Job)} {x2 : Int} {x3 : Int} {x4 : Int} {cs : List Value} (h : R_PoolOut.rd W B ((L0, L1, x2), x3, x4) cs) : ∃ a0 c0 a1 c1, cs = [.slice a0 L0.length c0, .slice a1 L1.length c1, .int .i64 x2, .int .i64 x3, .int .i64 x4] ∧ RdSl (Sl R_Label) W B L0 a0 c0 ∧ RdSl R_Job W B L1 a1 c1 := by
  obtain ⟨u1, v1, rfl, h1, g1⟩ := h
  obtain ⟨u2, v2, rfl, h2, g2⟩ := h1
  obtain ⟨a0, c0, rfl, k_L0⟩ := h2
  obtain ⟨u3, v3, rfl, h3, g3⟩ := g2
  obtain ⟨a1, c1, rfl, k_L1⟩ := h3
  obtain rfl : v3 = [_] := g3
  obtain ⟨u4, v4, rfl, h4, g4⟩ := g1
  obtain rfl : u4 = [_] := h4
  obtain rfl : v4 = [_] := g4
  exact ⟨a0, c0, a1, c1, rfl, k_L0, k_L1⟩
theorem mkrd_PoolOut {W : World} {B : Nat} {L0 : List (List (D_Label))} {L1 : List (D_Job)} {x2 : Int} {x3 : Int} {x4 : Int} {a0 : Option Addr} {c0 : Nat} {a1 : Option Addr} {c1 : Nat} (h_L0 : RdSl (Sl R_Label) W B L0 a0 c0) (h_L1 : RdSl R_Job W B L1 a1 c1) : R_PoolOut.rd W B ((L0, L1, x2), x3, x4) [.slice a0 L0.length c0, .slice a1 L1.length c1, .int .i64 x2, .int .i64 x3, .int .i64 x4] := ⟨[.slice a0 L0.length c0, .slice a1 L1.length c1, .int .i64 x2], [.int .i64 x3, .int .i64 x4], rfl, ⟨[.slice a0 L0.length c0], [.slice a1 L1.length c1, .int .i64 x2], rfl, ⟨a0, c0, rfl, h_L0⟩, ⟨[.slice a1 L1.length c1], [.int .i64 x2], rfl, ⟨a1, c1, rfl, h_L1⟩, rfl⟩⟩, ⟨[.int .i64 x3], [.int .i64 x4], rfl, rfl, rfl⟩⟩
theorem mkow_PoolOut {W : World} {S : Nat → Prop} {L0 : List (List (D_Label))} {L1 : List (D_Job)} {x2 : Int} {x3 : Int} {x4 : Int} {a0 : Option Addr} {c0 : Nat} {a1 : Option Addr} {c1 : Nat} {T0 : Nat → Prop} {T1 : Nat → Prop} (hs0 : ∀ k, T0 k → S k) (hs1 : ∀ k, T1 k → S k) (hd0_1 : ∀ k, T0 k → ¬ T1 k) (h_L0 : OwSl (Sl R_Label) W T0 L0 a0 c0) (h_L1 : OwSl R_Job W T1 L1 a1 c1) : R_PoolOut.ow W S ((L0, L1, x2), x3, x4) [.slice a0 L0.length c0, .slice a1 L1.length c1, .int .i64 x2, .int .i64 x3, .int .i64 x4] := ⟨[.slice a0 L0.length c0, .slice a1 L1.length c1, .int .i64 x2], [.int .i64 x3, .int .i64 x4], (fun k => T0 k ∨ T1 k), (fun _ => False), rfl, (fun k h => by rcases h with h | h <;> first | exact hs0 k h | exact hs1 k h), (fun k h => h.elim), (fun k h h' => h'.elim), ⟨[.slice a0 L0.length c0], [.slice a1 L1.length c1, .int .i64 x2], T0, T1, rfl, (fun k h => .inl h), (fun k h => .inr (h)), hd0_1, ⟨a0, c0, rfl, h_L0⟩, ⟨[.slice a1 L1.length c1], [.int .i64 x2], T1, (fun _ => False), rfl, (fun k h => h), (fun k h => h.elim), (fun k h h' => h'.elim), ⟨a1, c1, rfl, h_L1⟩, rfl⟩⟩, ⟨[.int .i64 x3], [.int .i64 x4], (fun _ => False), (fun _ => False), rfl, (fun k h => h.elim), (fun k h => h.elim), (fun k h h' => h.elim), rfl, rfl⟩⟩
theorem ow_PoolOut {W : World} {S : Nat → Prop} {L0 : List (List (D_Label))} {L1 : List (D_Job)} {x2 : Int} {x3 : Int} {x4 : Int} {cs : List Value} (h : R_PoolOut.ow W S ((L0, L1, x2), x3, x4) cs) : ∃ a0 c0 a1 c1, ∃ T0 T1 : Nat → Prop, cs = [.slice a0 L0.length c0, .slice a1 L1.length c1, .int .i64 x2, .int .i64 x3, .int .i64 x4] ∧ (∀ k, T0 k → S k) ∧ (∀ k, T1 k → S k) ∧ (∀ k, T0 k → ¬ T1 k) ∧ OwSl (Sl R_Label) W T0 L0 a0 c0 ∧ OwSl R_Job W T1 L1 a1 c1 := by
  obtain ⟨u1, v1, A1, B1, rfl, sa1, sb1, dd1, h1, g1⟩ := h
  obtain ⟨u2, v2, A2, B2, rfl, sa2, sb2, dd2, h2, g2⟩ := h1
  obtain ⟨a0, c0, rfl, k_L0⟩ := h2
  obtain ⟨u3, v3, A3, B3, rfl, sa3, sb3, dd3, h3, g3⟩ := g2
  obtain ⟨a1, c1, rfl, k_L1⟩ := h3
  obtain rfl : v3 = [_] := g3
  obtain ⟨u4, v4, A4, B4, rfl, sa4, sb4, dd4, h4, g4⟩ := g1
  obtain rfl : u4 = [_] := h4
  obtain rfl : v4 = [_] := g4
  exact ⟨a0, c0, a1, c1, A2, A3, rfl, fun k h => sa1 k (sa2 k (h)), fun k h => sa1 k (sb2 k (sa3 k (h))), fun k h h' => dd2 k (h) (sa3 k (h')), k_L0, k_L1⟩

theorem size_LabelS : (R_Label).size = 2 := rfl
def zs_LabelS (n : Nat) : Array Value := madeCells #[.int .i64 0, .int .i64 0] (n * 2)
theorem zs_LabelS_size (n : Nat) : (zs_LabelS n).size = n * (R_Label).size := by unfold zs_LabelS; simp [madeCells, size_LabelS]
theorem make_LabelS (n : Nat) (hn : n ≤ 1048576) : ∀ W : World, (Instr.makeSlice 73 (.int .i64 (n : Int)) (.int .i64 (n : Int))).run Try.prog W = .ok (.slice (some ⟨W.heap.size, 0, none⟩) n n) (W.alloc (.cells (zs_LabelS n) 38)) := by
  intro W
  obtain ⟨i, hi, hz, hs, hb⟩ : ∃ i, Try.prog.info? 38 = some i ∧ i.zero = some (.agg #[.int .i64 0, .int .i64 0]) ∧ i.size = 2 ∧ i.bytes = 16 := by
    have h : (Try.prog.info? 38).map (fun i => (i.zero, i.size, i.bytes)) = some (some (.agg #[.int .i64 0, .int .i64 0]), 2, 16) := by kernel_rfl
    cases hx : Try.prog.info? 38 with
    | none => rw [hx] at h; simp at h
    | some i => rw [hx] at h; simp at h; exact ⟨i, rfl, h.1, h.2.1, h.2.2⟩
  have hr := run_make (P := Try.prog) W 73 38 i _ Try.underlying73 hi hz .i64 .i64 n n (by omega) (by omega) (by rw [hb]; omega) (by omega)
  rw [hs] at hr
  simp only [Int.toNat_natCast] at hr
  exact hr

set_option maxRecDepth 100000 in
set_option maxHeartbeats 3200000 in
theorem to_LabelS {L : List (D_Label)} {a : Option Addr} {cap : Nat} {W : World} (hsz : ((Sl R_Label)).sz L ≤ 1048576) (h : RdSl R_Label W W.heap.size L a cap) : Calls Try.prog 80 #[.slice a L.length cap] W (NewS R_Label L W) := by
  have hn : L.length ≤ 1048576 := Nat.le_trans (Nat.le_add_right _ _) hsz
  have hmk := make_LabelS L.length hn
  have H := Lib.hid h
  have HSZ := Lib.hid hsz
  clear h hsz
  go_enter Try.func80, Try.ntmps80
  go_wp2
  go_loopw [4] (fun i wr => ∃ k : Nat, k ≤ L.length ∧ i = .int .i64 k ∧ ∃ Sf, Fil R_Label W wr L W.heap.size Sf k) (fun i _ => L.length - (intOf i).toNat)
  case atStart => exact ⟨0, Nat.zero_le _, rfl, _, Fil.new (by exact zs_LabelS_size _)⟩
  case round =>
    obtain ⟨k, hk, rfl, Sf, hF⟩ := hrel
    have HF := Lib.hid hF
    by_cases hlt : k < L.length
    · obtain ⟨⟨x0, x1⟩, hx⟩ := el_some hlt
      have HX := Lib.hid hx
      obtain ⟨g, o, us, rfl, hg, hu, hr⟩ := (H.out.below R_Label_ok hF.below).at_ hx
      obtain rfl := rd_Label hr
      have e0 : wr.cell? ⟨g, o + k * 2, none⟩ = some (.int .i64 x0) := by simpa [size_LabelS, Nat.add_assoc] using hu 0 _ rfl
      have e1 : wr.cell? ⟨g, o + k * 2 + 1, none⟩ = some (.int .i64 x1) := by simpa [size_LabelS, Nat.add_assoc] using hu 1 _ rfl
      have hi0 : (0 : Int) ≤ (k : Int) := Int.natCast_nonneg _
      have hi1 : (k : Int) < (L.length : Int) := by omega
      have HE := Lib.hid (sz_at (f := (R_Label).sz) HX.out HSZ.out)
      clear hF hx hu hmk
      go_wp2_with fail
      refine (to_Label (by exact HE.out)).mono ?_
      intro e w1 h
      obtain ⟨vs, rfl, how, hb⟩ := newV_elim h
      have HOW := Lib.hid how
      obtain rfl := ow0_Label how
      have HP := Lib.hid (HF.out.put R_Label_ok HX.out hb HOW.out)
      have hlt1 := HF.out.lt
      obtain ⟨t0, ht0⟩ := HF.out.there (k * 2) (by rw [size_LabelS]; omega)
      have q0 := (hb.cell (p := ⟨W.heap.size, k * 2, none⟩) hlt1).trans ht0
      have s0 := (hb.frozen (p := ⟨W.heap.size, k * 2, none⟩) hlt1).trans (HF.out.soft (k * 2))
      obtain ⟨t1, ht1⟩ := HF.out.there (k * 2 + 1) (by rw [size_LabelS]; omega)
      have q1 := (hb.cell (p := ⟨W.heap.size, k * 2 + 1, none⟩) hlt1).trans ht1
      have s1 := (hb.frozen (p := ⟨W.heap.size, k * 2 + 1, none⟩) hlt1).trans (HF.out.soft (k * 2 + 1))
      clear h how hb ht0 ht1 e0 e1
      go_wp2
      go_roundw
      case rel => exact ⟨k + 1, by omega, by go_num, _, by simpa [putCells, size_LabelS, Nat.add_assoc] using HP.out⟩
      case measure => simp [intOf]; omega
    · obtain rfl : k = L.length := by omega
      have HR := Lib.hid (HF.out.news (by unfold maxLen; omega))
      clear hF hmk
      go_wp2
      go_ret
      exact HR.out

theorem size_LabelSS : ((Sl R_Label)).size = 1 := rfl
def zs_LabelSS (n : Nat) : Array Value := madeCells #[.slice none 0 0] (n * 1)
theorem zs_LabelSS_size (n : Nat) : (zs_LabelSS n).size = n * ((Sl R_Label)).size := by unfold zs_LabelSS; simp [madeCells, size_LabelSS]
theorem make_LabelSS (n : Nat) (hn : n ≤ 1048576) : ∀ W : World, (Instr.makeSlice 32 (.int .i64 (n : Int)) (.int .i64 (n : Int))).run Try.prog W = .ok (.slice (some ⟨W.heap.size, 0, none⟩) n n) (W.alloc (.cells (zs_LabelSS n) 73)) := by
  intro W
  obtain ⟨i, hi, hz, hs, hb⟩ : ∃ i, Try.prog.info? 73 = some i ∧ i.zero = some (.slice none 0 0) ∧ i.size = 1 ∧ i.bytes = 24 := by
    have h : (Try.prog.info? 73).map (fun i => (i.zero, i.size, i.bytes)) = some (some (.slice none 0 0), 1, 24) := by kernel_rfl
    cases hx : Try.prog.info? 73 with
    | none => rw [hx] at h; simp at h
    | some i => rw [hx] at h; simp at h; exact ⟨i, rfl, h.1, h.2.1, h.2.2⟩
  have hr := run_make (P := Try.prog) W 32 73 i _ Try.underlying32 hi hz .i64 .i64 n n (by omega) (by omega) (by rw [hb]; omega) (by omega)
  rw [hs] at hr
  simp only [Int.toNat_natCast] at hr
  exact hr

set_option maxRecDepth 100000 in
set_option maxHeartbeats 3200000 in
theorem to_LabelSS {L : List (List (D_Label))} {a : Option Addr} {cap : Nat} {W : World} (hsz : ((Sl (Sl R_Label))).sz L ≤ 1048576) (h : RdSl (Sl R_Label) W W.heap.size L a cap) : Calls Try.prog 43 #[.slice a L.length cap] W (NewS (Sl R_Label) L W) := by
  have hn : L.length ≤ 1048576 := Nat.le_trans (Nat.le_add_right _ _) hsz
  have hmk := make_LabelSS L.length hn
  have H := Lib.hid h
  have HSZ := Lib.hid hsz
  clear h hsz
  go_enter Try.func43, Try.ntmps43
  go_wp2
  go_loopw [4] (fun i wr => ∃ k : Nat, k ≤ L.length ∧ i = .int .i64 k ∧ ∃ Sf, Fil (Sl R_Label) W wr L W.heap.size Sf k) (fun i _ => L.length - (intOf i).toNat)
  case atStart => exact ⟨0, Nat.zero_le _, rfl, _, Fil.new (by exact zs_LabelSS_size _)⟩
  case round =>
    obtain ⟨k, hk, rfl, Sf, hF⟩ := hrel
    have HF := Lib.hid hF
    by_cases hlt : k < L.length
    · obtain ⟨x, hx⟩ := el_some hlt
      have HX := Lib.hid hx
      obtain ⟨g, o, us, rfl, hg, hu, hr⟩ := (H.out.below (Sl_ok R_Label_ok) hF.below).at_ hx
      obtain ⟨a1, c1, rfl, k_x⟩ := hr
      have e0 : wr.cell? ⟨g, o + k, none⟩ = some (.slice a1 x.length c1) := by simpa [size_LabelSS, Nat.add_assoc] using hu 0 _ rfl
      have hi0 : (0 : Int) ≤ (k : Int) := Int.natCast_nonneg _
      have hi1 : (k : Int) < (L.length : Int) := by omega
      have HE := Lib.hid (sz_at (f := ((Sl R_Label)).sz) HX.out HSZ.out)
      have HK := Lib.hid (k_x.more R_Label_ok (Nat.le_of_lt HF.out.lt))
      clear hF hx hu hmk k_x
      go_wp2_with fail
      refine (to_LabelS (by exact HE.out) (by exact HK.out)).mono ?_
      intro e w1 h
      obtain ⟨b0, d0, rfl, how, hb⟩ := newS_elim h
      have HOW := Lib.hid (show ((Sl R_Label)).ow _ _ x [.slice b0 x.length d0] from ⟨b0, d0, rfl, how⟩)
      have HP := Lib.hid (HF.out.put (Sl_ok R_Label_ok) HX.out hb HOW.out)
      have hlt1 := HF.out.lt
      obtain ⟨t0, ht0⟩ := HF.out.there (k) (by rw [size_LabelSS]; omega)
      have q0 := (hb.cell (p := ⟨W.heap.size, k, none⟩) hlt1).trans ht0
      have s0 := (hb.frozen (p := ⟨W.heap.size, k, none⟩) hlt1).trans (HF.out.soft (k))
      clear h how hb ht0 e0
      go_wp2
      go_roundw
      case rel => exact ⟨k + 1, by omega, by go_num, _, by simpa [putCells, size_LabelSS, Nat.add_assoc] using HP.out⟩
      case measure => simp [intOf]; omega
    · obtain rfl : k = L.length := by omega
      have HR := Lib.hid (HF.out.news (by unfold maxLen; omega))
      clear hF hmk
      go_wp2
      go_ret
      exact HR.out


theorem sizeq_LabelS : (R_Label).size = 2 := rfl
set_option maxRecDepth 100000 in
set_option maxHeartbeats 3200000 in
theorem eq_LabelS {L : List (D_Label)} {a a' : Option Addr} {cap cap' : Nat} {W : World} (h : RdSl R_Label W W.heap.size L a cap) (h' : RdSl R_Label W W.heap.size L a' cap') : Calls Try.prog 89 #[.slice a L.length cap, .slice a' L.length cap'] W (IsB true W) := by
  have hn : L.length ≤ 9223372036854775807 := by have h1 := h.1; have h2 := h.2.1; unfold maxLen at h2; omega
  have H := Lib.hid h
  have H' := Lib.hid h'
  clear h h'
  go_enter Try.func89, Try.ntmps89
  go_wp2
  go_loopw [5] (fun i wr => ∃ k : Nat, k ≤ L.length ∧ i = .int .i64 k ∧ Below W.heap.size W wr) (fun i _ => L.length - (intOf i).toNat)
  case atStart => exact ⟨0, Nat.zero_le _, rfl, Below.refl _ _⟩
  case round =>
    obtain ⟨k, hk, rfl, hB⟩ := hrel
    have HB := Lib.hid hB
    have hsz := hB.size
    by_cases hlt : k < L.length
    · obtain ⟨⟨x0, x1⟩, hx⟩ := el_some hlt
      have HX := Lib.hid hx
      obtain ⟨g, o, us, rfl, hg, hu, hr⟩ := (H.out.below R_Label_ok hB).at_ hx
      obtain ⟨g', o', vs, rfl, hg', hu', hr'⟩ := (H'.out.below R_Label_ok hB).at_ hx
      obtain rfl := rd_Label hr
      obtain rfl := rd_Label hr'
      have e0 : wr.cell? ⟨g, o + k * 2, none⟩ = some (.int .i64 x0) := by simpa [sizeq_LabelS, Nat.add_assoc] using hu 0 _ rfl
      have d0 : wr.cell? ⟨g', o' + k * 2, none⟩ = some (.int .i64 x0) := by simpa [sizeq_LabelS, Nat.add_assoc] using hu' 0 _ rfl
      have e1 : wr.cell? ⟨g, o + k * 2 + 1, none⟩ = some (.int .i64 x1) := by simpa [sizeq_LabelS, Nat.add_assoc] using hu 1 _ rfl
      have d1 : wr.cell? ⟨g', o' + k * 2 + 1, none⟩ = some (.int .i64 x1) := by simpa [sizeq_LabelS, Nat.add_assoc] using hu' 1 _ rfl
      have hi0 : (0 : Int) ≤ (k : Int) := Int.natCast_nonneg _
      have hi1 : (k : Int) < (L.length : Int) := by omega
      have hgl : g < wr.heap.size := Nat.lt_of_lt_of_le hg hsz
      have hgl' : g' < wr.heap.size := Nat.lt_of_lt_of_le hg' hsz
      clear hB hx hu hu'
      go_wp2_with fail
      refine wp_region_held_drew (S := (fun W => W.cell? ⟨g, o + k * 2, none⟩ = some (.int .i64 x0) ∧ W.cell? ⟨g, o + k * 2 + 1, none⟩ = some (.int .i64 x1) ∧ W.cell? ⟨g', o' + k * 2, none⟩ = some (.int .i64 x0) ∧ W.cell? ⟨g', o' + k * 2 + 1, none⟩ = some (.int .i64 x1) ∧ wr.heap.size ≤ W.heap.size ∧ Below wr.heap.size wr W)) (by kernel_rfl) (⟨e0, e1, d0, d1, Nat.le_refl _, (Below.refl _ _).drew⟩) (fun hHeld => ?_)
      refine wpAnyH_take (i := 0) (v := ?hv1) rfl (by kernel_rfl) (by kernel_rfl) (by kernel_rfl) (fun _ _ _ h => h) (Or.inl ⟨by kernel_rfl, ?hy1⟩) hHeld ?hr1
      case hy1 => (intro w hSw; (try dsimp only at hSw); go_simp; try with_reducible rfl)
      refine wpAnyH_take (i := 1) (v := ?hv2) rfl (by kernel_rfl) (by kernel_rfl) (by kernel_rfl) (fun _ _ _ h => h) (Or.inl ⟨by kernel_rfl, ?hy2⟩) hHeld ?hr2
      case hy2 => (intro w hSw; (try dsimp only at hSw); go_simp; try with_reducible rfl)
      refine wpAnyH_take (i := 2) (v := ?hv3) rfl (by kernel_rfl) (by kernel_rfl) (by kernel_rfl) (fun _ _ _ h => h) (Or.inl ⟨by kernel_rfl, ?hy3⟩) hHeld ?hr3
      case hy3 => (intro w hSw; (try dsimp only at hSw); go_simp; try with_reducible rfl)
      refine wpAnyH_take (i := 3) (v := ?hv4) rfl (by kernel_rfl) (by kernel_rfl) (by kernel_rfl) (fun _ _ _ h => h) (Or.inl ⟨by kernel_rfl, ?hy4⟩) hHeld ?hr4
      case hy4 => (intro w hSw; (try dsimp only at hSw); go_simp; try with_reducible rfl)
      refine wpAnyH_take (i := 4) (v := ?hv5) rfl (by kernel_rfl) (by kernel_rfl) (by kernel_rfl) (fun _ _ _ h => h) (Or.inl ⟨by kernel_rfl, ?hy5⟩) hHeld ?hr5
      case hy5 => (intro w hSw; (try dsimp only at hSw); go_simp; try with_reducible rfl)
      refine wpAnyH_take (i := 5) (v := ?hv6) rfl (by kernel_rfl) (by kernel_rfl) (by kernel_rfl) (fun _ _ _ h => h) (Or.inl ⟨by kernel_rfl, ?hy6⟩) hHeld ?hr6
      case hy6 => (intro w hSw; (try dsimp only at hSw); go_simp; try with_reducible rfl)
      refine wpAnyH_take (i := 6) (v := ?hv7) rfl (by kernel_rfl) (by kernel_rfl) (by kernel_rfl) (fun _ _ _ h => h) (Or.inl ⟨by kernel_rfl, ?hy7⟩) hHeld ?hr7
      case hy7 => (intro w hSw; (try dsimp only at hSw); go_simp; try with_reducible rfl)
      refine wpAnyH_take (i := 7) (v := ?hv8) rfl (by kernel_rfl) (by kernel_rfl) (by kernel_rfl) (fun _ _ _ h => h) (Or.inl ⟨by kernel_rfl, ?hy8⟩) hHeld ?hr8
      case hy8 => (intro w hSw; (try dsimp only at hSw); go_simp; try with_reducible rfl)
      refine rd1 8 (fun K hK => ?_)
      go_simp
      refine (eq_Label).mono ?_
      intro e w1 h
      obtain ⟨rfl, hb⟩ := isB_elim h
      refine hK.out _ _ (⟨(hb.cell (p := ⟨g, o + k * 2, none⟩) (Nat.lt_of_lt_of_le hgl hHeld.2.2.2.2.1)).trans hHeld.1, (hb.cell (p := ⟨g, o + k * 2 + 1, none⟩) (Nat.lt_of_lt_of_le hgl hHeld.2.2.2.2.1)).trans hHeld.2.1, (hb.cell (p := ⟨g', o' + k * 2, none⟩) (Nat.lt_of_lt_of_le hgl' hHeld.2.2.2.2.1)).trans hHeld.2.2.1, (hb.cell (p := ⟨g', o' + k * 2 + 1, none⟩) (Nat.lt_of_lt_of_le hgl' hHeld.2.2.2.2.1)).trans hHeld.2.2.2.1, Nat.le_trans hHeld.2.2.2.2.1 hb.size, hHeld.2.2.2.2.2.trans (hb.mono hHeld.2.2.2.2.1)⟩) (fun hHeld => ?_)
      clear hK K h
      refine tk 9 hHeld ?_
      refine rd0 ?_
      have HB2 := Lib.hid (HB.out.trans (hHeld.2.2.2.2.2.mono hsz))
      clear hHeld
      go_wp2
      go_roundw
      case rel => exact ⟨k + 1, by omega, by go_num, HB2.out⟩
      case measure => simp [intOf]; omega
    · clear hB
      go_wp2
      go_ret
      exact ⟨rfl, HB.out⟩


theorem sizeq_LabelSS : ((Sl R_Label)).size = 1 := rfl
set_option maxRecDepth 100000 in
set_option maxHeartbeats 3200000 in
theorem eq_LabelSS {L : List (List (D_Label))} {a a' : Option Addr} {cap cap' : Nat} {W : World} (h : RdSl (Sl R_Label) W W.heap.size L a cap) (h' : RdSl (Sl R_Label) W W.heap.size L a' cap') : Calls Try.prog 48 #[.slice a L.length cap, .slice a' L.length cap'] W (IsB true W) := by
  have hn : L.length ≤ 9223372036854775807 := by have h1 := h.1; have h2 := h.2.1; unfold maxLen at h2; omega
  have H := Lib.hid h
  have H' := Lib.hid h'
  clear h h'
  go_enter Try.func48, Try.ntmps48
  go_wp2
  go_loopw [5] (fun i wr => ∃ k : Nat, k ≤ L.length ∧ i = .int .i64 k ∧ Below W.heap.size W wr) (fun i _ => L.length - (intOf i).toNat)
  case atStart => exact ⟨0, Nat.zero_le _, rfl, Below.refl _ _⟩
  case round =>
    obtain ⟨k, hk, rfl, hB⟩ := hrel
    have HB := Lib.hid hB
    have hsz := hB.size
    by_cases hlt : k < L.length
    · obtain ⟨x, hx⟩ := el_some hlt
      have HX := Lib.hid hx
      obtain ⟨g, o, us, rfl, hg, hu, hr⟩ := (H.out.below (Sl_ok R_Label_ok) hB).at_ hx
      obtain ⟨g', o', vs, rfl, hg', hu', hr'⟩ := (H'.out.below (Sl_ok R_Label_ok) hB).at_ hx
      obtain ⟨a1, c1, rfl, k_x⟩ := hr
      obtain ⟨a1', c1', rfl, k'_x⟩ := hr'
      have e0 : wr.cell? ⟨g, o + k, none⟩ = some (.slice a1 x.length c1) := by simpa [sizeq_LabelSS, Nat.add_assoc] using hu 0 _ rfl
      have d0 : wr.cell? ⟨g', o' + k, none⟩ = some (.slice a1' x.length c1') := by simpa [sizeq_LabelSS, Nat.add_assoc] using hu' 0 _ rfl
      have hi0 : (0 : Int) ≤ (k : Int) := Int.natCast_nonneg _
      have hi1 : (k : Int) < (L.length : Int) := by omega
      have hgl : g < wr.heap.size := Nat.lt_of_lt_of_le hg hsz
      have hgl' : g' < wr.heap.size := Nat.lt_of_lt_of_le hg' hsz
      have K := Lib.hid (k_x.more R_Label_ok hsz)
      have K' := Lib.hid (k'_x.more R_Label_ok hsz)
      clear hB hx hu hu' k_x k'_x
      go_wp2_with fail
      refine wp_region_held_drew (S := (fun W => W.cell? ⟨g, o + k, none⟩ = some (.slice a1 x.length c1) ∧ W.cell? ⟨g', o' + k, none⟩ = some (.slice a1' x.length c1') ∧ wr.heap.size ≤ W.heap.size ∧ Below wr.heap.size wr W)) (by kernel_rfl) (⟨e0, d0, Nat.le_refl _, (Below.refl _ _).drew⟩) (fun hHeld => ?_)
      refine wpAnyH_take (i := 0) (v := ?hv10) rfl (by kernel_rfl) (by kernel_rfl) (by kernel_rfl) (fun _ _ _ h => h) (Or.inl ⟨by kernel_rfl, ?hy10⟩) hHeld ?hr10
      case hy10 => (intro w hSw; (try dsimp only at hSw); go_simp; try with_reducible rfl)
      refine wpAnyH_take (i := 1) (v := ?hv11) rfl (by kernel_rfl) (by kernel_rfl) (by kernel_rfl) (fun _ _ _ h => h) (Or.inl ⟨by kernel_rfl, ?hy11⟩) hHeld ?hr11
      case hy11 => (intro w hSw; (try dsimp only at hSw); go_simp; try with_reducible rfl)
      refine wpAnyH_take (i := 2) (v := ?hv12) rfl (by kernel_rfl) (by kernel_rfl) (by kernel_rfl) (fun _ _ _ h => h) (Or.inl ⟨by kernel_rfl, ?hy12⟩) hHeld ?hr12
      case hy12 => (intro w hSw; (try dsimp only at hSw); go_simp; try with_reducible rfl)
      refine wpAnyH_take (i := 3) (v := ?hv13) rfl (by kernel_rfl) (by kernel_rfl) (by kernel_rfl) (fun _ _ _ h => h) (Or.inl ⟨by kernel_rfl, ?hy13⟩) hHeld ?hr13
      case hy13 => (intro w hSw; (try dsimp only at hSw); go_simp; try with_reducible rfl)
      refine wpAnyH_take (i := 4) (v := ?hv14) rfl (by kernel_rfl) (by kernel_rfl) (by kernel_rfl) (fun _ _ _ h => h) (Or.inl ⟨by kernel_rfl, ?hy14⟩) hHeld ?hr14
      case hy14 => (intro w hSw; (try dsimp only at hSw); go_simp; try with_reducible rfl)
      refine wpAnyH_take (i := 5) (v := ?hv15) rfl (by kernel_rfl) (by kernel_rfl) (by kernel_rfl) (fun _ _ _ h => h) (Or.inl ⟨by kernel_rfl, ?hy15⟩) hHeld ?hr15
      case hy15 => (intro w hSw; (try dsimp only at hSw); go_simp; try with_reducible rfl)
      refine wpAnyH_take (i := 6) (v := ?hv16) rfl (by kernel_rfl) (by kernel_rfl) (by kernel_rfl) (fun _ _ _ h => h) (Or.inl ⟨by kernel_rfl, ?hy16⟩) hHeld ?hr16
      case hy16 => (intro w hSw; (try dsimp only at hSw); go_simp; try with_reducible rfl)
      refine wpAnyH_take (i := 7) (v := ?hv17) rfl (by kernel_rfl) (by kernel_rfl) (by kernel_rfl) (fun _ _ _ h => h) (Or.inl ⟨by kernel_rfl, ?hy17⟩) hHeld ?hr17
      case hy17 => (intro w hSw; (try dsimp only at hSw); go_simp; try with_reducible rfl)
      refine wpAnyH_ready (rs := [8]) (by kernel_rfl) (by simp) ?_
      refine AllReadyH.cons rfl (fun KK hK => ?_) AllReadyH.nil
      go_simp
      refine (eq_LabelS ((K.out.below R_Label_ok (by exact hHeld.2.2.2)).more R_Label_ok (by exact hHeld.2.2.1)) ((K'.out.below R_Label_ok (by exact hHeld.2.2.2)).more R_Label_ok (by exact hHeld.2.2.1))).mono ?_
      intro e w1 h
      obtain ⟨rfl, hb⟩ := isB_elim h
      refine hK.out _ _ (⟨(hb.cell (p := ⟨g, o + k, none⟩) (Nat.lt_of_lt_of_le hgl hHeld.2.2.1)).trans hHeld.1, (hb.cell (p := ⟨g', o' + k, none⟩) (Nat.lt_of_lt_of_le hgl' hHeld.2.2.1)).trans hHeld.2.1, Nat.le_trans hHeld.2.2.1 hb.size, hHeld.2.2.2.trans (hb.mono hHeld.2.2.1)⟩) (fun hHeld => ?_)
      clear hK KK h
      refine wpAnyH_take (i := 9) (v := ?hv18) rfl (by kernel_rfl) (by kernel_rfl) (by kernel_rfl) (fun _ _ _ h => h) (Or.inl ⟨by kernel_rfl, ?hy18⟩) hHeld ?hr18
      case hy18 => (intro w hSw; (try dsimp only at hSw); go_simp; try with_reducible rfl)
      refine rd0 ?_
      have HB2 := Lib.hid (HB.out.trans (hHeld.2.2.2.mono hsz))
      clear hHeld
      go_wp2
      go_roundw
      case rel => exact ⟨k + 1, by omega, by go_num, HB2.out⟩
      case measure => simp [intOf]; omega
    · clear hB
      go_wp2
      go_ret
      exact ⟨rfl, HB.out⟩


theorem flat_LabelS (L : List (D_Label)) : (Sl R_Label).sz L = L.length := by
  have : sumL (R_Label).sz L = 0 := sumL_zero (fun _ => rfl) L
  simp only [Sl, this, Nat.add_zero]
set_option maxRecDepth 100000 in
theorem sz_LabelS {L : List (D_Label)} {a : Option Addr} {cap : Nat} {W : World} {l : Int} (h0 : 0 ≤ l) (h1 : l ≤ 1048576) (h : RdSl R_Label W W.heap.size L a cap) : Calls Try.prog 74 #[.slice a L.length cap, .int .i64 l] W (SzC l ((Sl R_Label).sz L) W) := by
  have hn : L.length ≤ 9223372036854775807 := by have h1 := h.1; have h2 := h.2.1; unfold maxLen at h2; omega
  rw [flat_LabelS]
  clear h
  by_cases hf : (L.length : Int) ≤ l
  · have HR := Lib.hid (szR_yes hf)
    go_enter Try.func74, Try.ntmps74
    go_wp2
    go_ret
    exact ⟨by first | (rw [HR.out]; done) | (rw [HR.out]; rfl), Below.refl _ _⟩
  · have HR := Lib.hid (szR_no hf)
    go_enter Try.func74, Try.ntmps74
    go_wp2
    go_ret
    exact ⟨by first | (rw [HR.out]; done) | (rw [HR.out]; rfl), Below.refl _ _⟩


theorem sizz_LabelSS : ((Sl R_Label)).size = 1 := rfl
theorem szd_LabelSS (L : List (List (D_Label))) : (Sl (Sl R_Label)).sz L = L.length + sumL ((Sl R_Label)).sz L := rfl
set_option maxRecDepth 100000 in
set_option maxHeartbeats 1600000 in
theorem sz_LabelSS {L : List (List (D_Label))} {a : Option Addr} {cap : Nat} {W : World} {l : Int} (h0 : 0 ≤ l) (h1 : l ≤ 1048576) (h : RdSl (Sl R_Label) W W.heap.size L a cap) : Calls Try.prog 38 #[.slice a L.length cap, .int .i64 l] W (SzC l ((Sl (Sl R_Label)).sz L) W) := by
  have hn : L.length ≤ 9223372036854775807 := by have h1 := h.1; have h2 := h.2.1; unfold maxLen at h2; omega
  have H := Lib.hid h
  have HD := Lib.hid (szd_LabelSS L)
  clear h
  by_cases hlen : (L.length : Int) ≤ l
  · go_enter Try.func38, Try.ntmps38
    go_wp2
    go_loopw [5, 1] (fun i q wr => ∃ k : Nat, k ≤ L.length ∧ i = .int .i64 k ∧ (L.length : Int) + (sumL ((Sl R_Label)).sz (L.take k) : Nat) ≤ l ∧ q = .int .i64 (l - L.length - (sumL ((Sl R_Label)).sz (L.take k) : Nat)) ∧ Below W.heap.size W wr) (fun i _ _ => L.length - (intOf i).toNat)
    case atStart => exact ⟨0, Nat.zero_le _, rfl, by simpa [sumL] using hlen, by simp [sumL], Below.refl _ _⟩
    case round =>
      obtain ⟨k, hk, rfl, hfit, rfl, hB⟩ := hrel
      have HB := Lib.hid hB
      have hsz := hB.size
      have hle := sumL_take_le ((Sl R_Label)).sz L k
      by_cases hlt : k < L.length
      · obtain ⟨x, hx⟩ := el_some hlt
        have HS := Lib.hid (sumL_take ((Sl R_Label)).sz hx)
        have hle2 := sumL_take_le ((Sl R_Label)).sz L (k + 1)
        obtain ⟨g, o, us, rfl, hg, hu, hr⟩ := (H.out.below (Sl_ok R_Label_ok) hB).at_ hx
        obtain ⟨a1, c1, rfl, k_x⟩ := hr
        have e0 : wr.cell? ⟨g, o + k, none⟩ = some (.slice a1 x.length c1) := by simpa [sizz_LabelSS, Nat.add_assoc] using hu 0 _ rfl
        have K_x := Lib.hid (k_x.more R_Label_ok hsz)
        obtain ⟨q, hq⟩ : ∃ q, q = sumL ((Sl R_Label)).sz (L.take k) := ⟨_, rfl⟩
        obtain ⟨p, hp⟩ : ∃ p, p = ((Sl R_Label)).sz x := ⟨_, rfl⟩
        rw [← hq] at hfit hle HS
        rw [← hp] at HS
        have HQ := Lib.hid hq
        have HP := Lib.hid hp
        have hi0 : (0 : Int) ≤ (k : Int) := Int.natCast_nonneg _
        have hi1 : (k : Int) < (L.length : Int) := by omega
        have hgl : g < wr.heap.size := Nat.lt_of_lt_of_le hg hsz
        have hle3 : q + p ≤ sumL ((Sl R_Label)).sz L := by rw [← HS.out]; exact hle2
        rw [← hq]
        clear hB hx hu k_x hq hp hle2
        go_wp2_with fail
        refine (sz_LabelS (by omega) (by omega) K_x.out).mono ?_
        intro e w1 h
        obtain ⟨rfl, hb⟩ := szC_elim h
        rw [← HP.out]
        have HB2 := Lib.hid (HB.out.trans (hb.mono hsz))
        clear h hb
        by_cases hf : (p : Int) ≤ l - L.length - (q : Nat)
        · rw [szR_yes hf]
          have hpos : (0 : Int) ≤ l - L.length - (q : Nat) - (p : Nat) := by omega
          go_wp2
          go_roundw
          case rel => exact ⟨k + 1, by omega, by go_num, by rw [HS.out]; omega, by rw [HS.out]; congr 1; omega, HB2.out⟩
          case measure => simp [intOf]; omega
        · rw [szR_no hf]
          have HR := Lib.hid (szR_no (l := l) (s := (Sl (Sl R_Label)).sz L) (by rw [HD.out]; omega))
          go_wp2
          go_ret
          exact ⟨by first | (rw [HR.out]; done) | (rw [HR.out]; rfl), HB2.out⟩
      · obtain rfl : k = L.length := by omega
        have HR := Lib.hid (szR_yes (l := l) (s := (Sl (Sl R_Label)).sz L) (by rw [HD.out]; rw [List.take_length] at hfit; omega))
        have HT := Lib.hid (show L.take L.length = L from List.take_length)
        clear hB
        go_wp2
        go_ret
        exact ⟨by rw [HR.out, HD.out, ← HT.out]; first | rfl | (simp; done) | (simp; omega), HB.out⟩
  · have HR := Lib.hid (szR_no (l := l) (s := (Sl (Sl R_Label)).sz L) (by rw [HD.out]; omega))
    go_enter Try.func38, Try.ntmps38
    go_wp2
    go_ret
    exact ⟨by first | (rw [HR.out]; done) | (rw [HR.out]; rfl), Below.refl _ _⟩


theorem szd_Pool {L0 : List (List (D_Label))} {L1 : List (D_Job)} {x2 : Int} : R_Pool.sz (L0, L1, x2) = (((Sl (Sl R_Label))).sz L0) + (((Sl R_Job)).sz L1) := by
  simp only [R_Pool, Pr, I, Bo, atom]; omega
end Go.Proofs.Ytmmnkdilnlhbfaa.RepC
