/- The laws' data: contracts. -/
import Derived.Test.YtmmnkdilnlhbfaaTk
import Derived.Test.YtmmnkdilnlhbfaaRep3
import Derived.Test.YtmmnkdilnlhbfaaHeld
namespace Go.Proofs.Ytmmnkdilnlhbfaa.RepC
open Go.RowKit RowC ValC
set_option linter.unusedVariables false
set_option linter.unusedSimpArgs false

abbrev D_Label : Type := (Int) × (Int)
def R_Label : Rp D_Label := (Pr I I)
theorem R_Label_ok : Ok R_Label := (Pr_ok I_ok I_ok)
theorem rd_Label {W : World} {B : Nat} {x0 : Int} {x1 : Int} {cs : List Value} (h : R_Label.rd W B (x0, x1) cs) : cs = [.int .i64 x0, .int .i64 x1] := by
  obtain ⟨u1, v1, rfl, h1, g1⟩ := h
  obtain rfl : u1 = [_] := h1
  obtain rfl : v1 = [_] := g1
  rfl
theorem mkrd_Label {W : World} {B : Nat} {x0 : Int} {x1 : Int}  : R_Label.rd W B (x0, x1) [.int .i64 x0, .int .i64 x1] := ⟨[.int .i64 x0], [.int .i64 x1], rfl, rfl, rfl⟩
theorem mkow_Label {W : World} {S : Nat → Prop} {x0 : Int} {x1 : Int}  : R_Label.ow W S (x0, x1) [.int .i64 x0, .int .i64 x1] := ⟨[.int .i64 x0], [.int .i64 x1], (fun _ => False), (fun _ => False), rfl, (fun k h => h.elim), (fun k h => h.elim), (fun k h h' => h.elim), rfl, rfl⟩
theorem ow0_Label {W : World} {S : Nat → Prop} {x0 : Int} {x1 : Int} {cs : List Value} (h : R_Label.ow W S (x0, x1) cs) : cs = [.int .i64 x0, .int .i64 x1] := by
  obtain ⟨u1, v1, A1, B1, rfl, sa1, sb1, dd1, h1, g1⟩ := h
  obtain rfl : u1 = [_] := h1
  obtain rfl : v1 = [_] := g1
  rfl

abbrev D_Job : Type := (D_Label) × (Int) × (Int) × (Int) × (Int) × (Int) × (Int) × (List (Int))
def R_Job : Rp D_Job := (Pr R_Label (Pr I (Pr I (Pr I (Pr I (Pr I (Pr I (Sl I))))))))
theorem R_Job_ok : Ok R_Job := (Pr_ok R_Label_ok (Pr_ok I_ok (Pr_ok I_ok (Pr_ok I_ok (Pr_ok I_ok (Pr_ok I_ok (Pr_ok I_ok (Sl_ok I_ok))))))))
theorem rd_Job {W : World} {B : Nat} {x0 : Int} {x1 : Int} {x2 : Int} {x3 : Int} {x4 : Int} {x5 : Int} {x6 : Int} {x7 : Int} {L0 : List (Int)} {cs : List Value} (h : R_Job.rd W B ((x0, x1), x2, x3, x4, x5, x6, x7, L0) cs) : ∃ a0 c0, cs = [.int .i64 x0, .int .i64 x1, .int .i64 x2, .int .i64 x3, .int .i64 x4, .int .i64 x5, .int .i64 x6, .int .i64 x7, .slice a0 L0.length c0] ∧ RdSl I W B L0 a0 c0 := by
  obtain ⟨u1, v1, rfl, h1, g1⟩ := h
  obtain ⟨u2, v2, rfl, h2, g2⟩ := h1
  obtain rfl : u2 = [_] := h2
  obtain rfl : v2 = [_] := g2
  obtain ⟨u3, v3, rfl, h3, g3⟩ := g1
  obtain rfl : u3 = [_] := h3
  obtain ⟨u4, v4, rfl, h4, g4⟩ := g3
  obtain rfl : u4 = [_] := h4
  obtain ⟨u5, v5, rfl, h5, g5⟩ := g4
  obtain rfl : u5 = [_] := h5
  obtain ⟨u6, v6, rfl, h6, g6⟩ := g5
  obtain rfl : u6 = [_] := h6
  obtain ⟨u7, v7, rfl, h7, g7⟩ := g6
  obtain rfl : u7 = [_] := h7
  obtain ⟨u8, v8, rfl, h8, g8⟩ := g7
  obtain rfl : u8 = [_] := h8
  obtain ⟨a0, c0, rfl, k_L0⟩ := g8
  exact ⟨a0, c0, rfl, k_L0⟩
theorem mkrd_Job {W : World} {B : Nat} {x0 : Int} {x1 : Int} {x2 : Int} {x3 : Int} {x4 : Int} {x5 : Int} {x6 : Int} {x7 : Int} {L0 : List (Int)} {a0 : Option Addr} {c0 : Nat} (h_L0 : RdSl I W B L0 a0 c0) : R_Job.rd W B ((x0, x1), x2, x3, x4, x5, x6, x7, L0) [.int .i64 x0, .int .i64 x1, .int .i64 x2, .int .i64 x3, .int .i64 x4, .int .i64 x5, .int .i64 x6, .int .i64 x7, .slice a0 L0.length c0] := ⟨[.int .i64 x0, .int .i64 x1], [.int .i64 x2, .int .i64 x3, .int .i64 x4, .int .i64 x5, .int .i64 x6, .int .i64 x7, .slice a0 L0.length c0], rfl, ⟨[.int .i64 x0], [.int .i64 x1], rfl, rfl, rfl⟩, ⟨[.int .i64 x2], [.int .i64 x3, .int .i64 x4, .int .i64 x5, .int .i64 x6, .int .i64 x7, .slice a0 L0.length c0], rfl, rfl, ⟨[.int .i64 x3], [.int .i64 x4, .int .i64 x5, .int .i64 x6, .int .i64 x7, .slice a0 L0.length c0], rfl, rfl, ⟨[.int .i64 x4], [.int .i64 x5, .int .i64 x6, .int .i64 x7, .slice a0 L0.length c0], rfl, rfl, ⟨[.int .i64 x5], [.int .i64 x6, .int .i64 x7, .slice a0 L0.length c0], rfl, rfl, ⟨[.int .i64 x6], [.int .i64 x7, .slice a0 L0.length c0], rfl, rfl, ⟨[.int .i64 x7], [.slice a0 L0.length c0], rfl, rfl, ⟨a0, c0, rfl, h_L0⟩⟩⟩⟩⟩⟩⟩⟩
theorem mkow_Job {W : World} {S : Nat → Prop} {x0 : Int} {x1 : Int} {x2 : Int} {x3 : Int} {x4 : Int} {x5 : Int} {x6 : Int} {x7 : Int} {L0 : List (Int)} {a0 : Option Addr} {c0 : Nat} {T0 : Nat → Prop} (hs0 : ∀ k, T0 k → S k) (h_L0 : OwSl I W T0 L0 a0 c0) : R_Job.ow W S ((x0, x1), x2, x3, x4, x5, x6, x7, L0) [.int .i64 x0, .int .i64 x1, .int .i64 x2, .int .i64 x3, .int .i64 x4, .int .i64 x5, .int .i64 x6, .int .i64 x7, .slice a0 L0.length c0] := ⟨[.int .i64 x0, .int .i64 x1], [.int .i64 x2, .int .i64 x3, .int .i64 x4, .int .i64 x5, .int .i64 x6, .int .i64 x7, .slice a0 L0.length c0], (fun _ => False), T0, rfl, (fun k h => h.elim), (fun k h => hs0 k h), (fun k h h' => h.elim), ⟨[.int .i64 x0], [.int .i64 x1], (fun _ => False), (fun _ => False), rfl, (fun k h => h.elim), (fun k h => h.elim), (fun k h h' => h.elim), rfl, rfl⟩, ⟨[.int .i64 x2], [.int .i64 x3, .int .i64 x4, .int .i64 x5, .int .i64 x6, .int .i64 x7, .slice a0 L0.length c0], (fun _ => False), T0, rfl, (fun k h => h.elim), (fun k h => h), (fun k h h' => h.elim), rfl, ⟨[.int .i64 x3], [.int .i64 x4, .int .i64 x5, .int .i64 x6, .int .i64 x7, .slice a0 L0.length c0], (fun _ => False), T0, rfl, (fun k h => h.elim), (fun k h => h), (fun k h h' => h.elim), rfl, ⟨[.int .i64 x4], [.int .i64 x5, .int .i64 x6, .int .i64 x7, .slice a0 L0.length c0], (fun _ => False), T0, rfl, (fun k h => h.elim), (fun k h => h), (fun k h h' => h.elim), rfl, ⟨[.int .i64 x5], [.int .i64 x6, .int .i64 x7, .slice a0 L0.length c0], (fun _ => False), T0, rfl, (fun k h => h.elim), (fun k h => h), (fun k h h' => h.elim), rfl, ⟨[.int .i64 x6], [.int .i64 x7, .slice a0 L0.length c0], (fun _ => False), T0, rfl, (fun k h => h.elim), (fun k h => h), (fun k h h' => h.elim), rfl, ⟨[.int .i64 x7], [.slice a0 L0.length c0], (fun _ => False), T0, rfl, (fun k h => h.elim), (fun k h => h), (fun k h h' => h.elim), rfl, ⟨a0, c0, rfl, h_L0⟩⟩⟩⟩⟩⟩⟩⟩
theorem ow_Job {W : World} {S : Nat → Prop} {x0 : Int} {x1 : Int} {x2 : Int} {x3 : Int} {x4 : Int} {x5 : Int} {x6 : Int} {x7 : Int} {L0 : List (Int)} {cs : List Value} (h : R_Job.ow W S ((x0, x1), x2, x3, x4, x5, x6, x7, L0) cs) : ∃ a0 c0, ∃ T0 : Nat → Prop, cs = [.int .i64 x0, .int .i64 x1, .int .i64 x2, .int .i64 x3, .int .i64 x4, .int .i64 x5, .int .i64 x6, .int .i64 x7, .slice a0 L0.length c0] ∧ (∀ k, T0 k → S k) ∧ OwSl I W T0 L0 a0 c0 := by
  obtain ⟨u1, v1, A1, B1, rfl, sa1, sb1, dd1, h1, g1⟩ := h
  obtain ⟨u2, v2, A2, B2, rfl, sa2, sb2, dd2, h2, g2⟩ := h1
  obtain rfl : u2 = [_] := h2
  obtain rfl : v2 = [_] := g2
  obtain ⟨u3, v3, A3, B3, rfl, sa3, sb3, dd3, h3, g3⟩ := g1
  obtain rfl : u3 = [_] := h3
  obtain ⟨u4, v4, A4, B4, rfl, sa4, sb4, dd4, h4, g4⟩ := g3
  obtain rfl : u4 = [_] := h4
  obtain ⟨u5, v5, A5, B5, rfl, sa5, sb5, dd5, h5, g5⟩ := g4
  obtain rfl : u5 = [_] := h5
  obtain ⟨u6, v6, A6, B6, rfl, sa6, sb6, dd6, h6, g6⟩ := g5
  obtain rfl : u6 = [_] := h6
  obtain ⟨u7, v7, A7, B7, rfl, sa7, sb7, dd7, h7, g7⟩ := g6
  obtain rfl : u7 = [_] := h7
  obtain ⟨u8, v8, A8, B8, rfl, sa8, sb8, dd8, h8, g8⟩ := g7
  obtain rfl : u8 = [_] := h8
  obtain ⟨a0, c0, rfl, k_L0⟩ := g8
  exact ⟨a0, c0, B8, rfl, fun k h => sb1 k (sb3 k (sb4 k (sb5 k (sb6 k (sb7 k (sb8 k (h))))))), k_L0⟩

theorem size_Int64S : (I).size = 1 := rfl
def zs_Int64S (n : Nat) : Array Value := madeCells #[.int .i64 0] (n * 1)
theorem zs_Int64S_size (n : Nat) : (zs_Int64S n).size = n * (I).size := by unfold zs_Int64S; simp [madeCells, size_Int64S]
theorem make_Int64S (n : Nat) (hn : n ≤ 1048576) : ∀ W : World, (Instr.makeSlice 30 (.int .i64 (n : Int)) (.int .i64 (n : Int))).run Try.prog W = .ok (.slice (some ⟨W.heap.size, 0, none⟩) n n) (W.alloc (.cells (zs_Int64S n) 2)) := by
  intro W
  obtain ⟨i, hi, hz, hs, hb⟩ : ∃ i, Try.prog.info? 2 = some i ∧ i.zero = some (.int .i64 0) ∧ i.size = 1 ∧ i.bytes = 8 := by
    have h : (Try.prog.info? 2).map (fun i => (i.zero, i.size, i.bytes)) = some (some (.int .i64 0), 1, 8) := by kernel_rfl
    cases hx : Try.prog.info? 2 with
    | none => rw [hx] at h; simp at h
    | some i => rw [hx] at h; simp at h; exact ⟨i, rfl, h.1, h.2.1, h.2.2⟩
  have hr := run_make (P := Try.prog) W 30 2 i _ Try.underlying30 hi hz .i64 .i64 n n (by omega) (by omega) (by rw [hb]; omega) (by omega)
  rw [hs] at hr
  simp only [Int.toNat_natCast] at hr
  exact hr

set_option maxRecDepth 100000 in
set_option maxHeartbeats 3200000 in
theorem to_Int64S {L : List (Int)} {a : Option Addr} {cap : Nat} {W : World} (hsz : ((Sl I)).sz L ≤ 1048576) (h : RdSl I W W.heap.size L a cap) : Calls Try.prog 72 #[.slice a L.length cap] W (NewS I L W) := by
  have hn : L.length ≤ 1048576 := Nat.le_trans (Nat.le_add_right _ _) hsz
  have hmk := make_Int64S L.length hn
  have H := Lib.hid h
  have HSZ := Lib.hid hsz
  clear h hsz
  go_enter Try.func72, Try.ntmps72
  go_wp2
  go_loopw [4] (fun i wr => ∃ k : Nat, k ≤ L.length ∧ i = .int .i64 k ∧ ∃ Sf, Fil I W wr L W.heap.size Sf k) (fun i _ => L.length - (intOf i).toNat)
  case atStart => exact ⟨0, Nat.zero_le _, rfl, _, Fil.new (by exact zs_Int64S_size _)⟩
  case round =>
    obtain ⟨k, hk, rfl, Sf, hF⟩ := hrel
    have HF := Lib.hid hF
    by_cases hlt : k < L.length
    · obtain ⟨x, hx⟩ := el_some hlt
      have HX := Lib.hid hx
      obtain ⟨g, o, us, rfl, hg, hu, hr⟩ := (H.out.below I_ok hF.below).at_ hx
      obtain rfl : us = [_] := hr
      have e0 : wr.cell? ⟨g, o + k, none⟩ = some (.int .i64 x) := by simpa [size_Int64S, Nat.add_assoc] using hu 0 _ rfl
      have hi0 : (0 : Int) ≤ (k : Int) := Int.natCast_nonneg _
      have hi1 : (k : Int) < (L.length : Int) := by omega
      have HP := Lib.hid (HF.out.put I_ok (us := [.int .i64 x]) HX.out (Below.refl _ _) rfl)
      obtain ⟨t0, ht0⟩ := HF.out.there k (by rw [size_Int64S]; omega)
      have hs0 := HF.out.soft k
      clear hF hx hu hmk
      go_wp2
      go_roundw
      case rel => exact ⟨k + 1, by omega, by go_num, _, by simpa [putCells, size_Int64S] using HP.out⟩
      case measure => simp [intOf]; omega
    · obtain rfl : k = L.length := by omega
      have HR := Lib.hid (HF.out.news (by unfold maxLen; omega))
      clear hF hmk
      go_wp2
      go_ret
      exact HR.out


set_option maxRecDepth 100000 in
set_option maxHeartbeats 3200000 in
theorem to_Label {x0 : Int} {x1 : Int}  {W : World} (hsz : R_Label.sz (x0, x1) ≤ 1048576) : Calls Try.prog 12 #[.agg #[.int .i64 x0, .int .i64 x1]] W (NewV R_Label (x0, x1) W) := by
  have HSZ := Lib.hid hsz
  clear hsz
  go_enter Try.func12, Try.ntmps12
  go_wp2
  refine bodyPost_ret (v := .agg #[.int .i64 x0, .int .i64 x1]) (by simp [results, Try.results12, go_sem]) rfl ⟨[.int .i64 x0, .int .i64 x1], rfl, mkow_Label, (by repeat (first | exact Below.refl _ _ | refine Below.drew ?_ | refine Below.setCell ?_ (by first | omega | (simp; done) | (simp; omega)) _ | refine Below.alloc ?_ (by first | omega | (simp; done) | (simp; omega)) _))⟩


theorem size_JobS : (R_Job).size = 9 := rfl
def zs_JobS (n : Nat) : Array Value := madeCells #[.int .i64 0, .int .i64 0, .int .i64 0, .int .i64 0, .int .i64 0, .int .i64 0, .int .i64 0, .int .i64 0, .slice none 0 0] (n * 9)
theorem zs_JobS_size (n : Nat) : (zs_JobS n).size = n * (R_Job).size := by unfold zs_JobS; simp [madeCells, size_JobS]
set_option maxRecDepth 100000 in
set_option maxHeartbeats 3200000 in
theorem eq_Label {x0 : Int} {x1 : Int}   {W : World} : Calls Try.prog 66 #[.agg #[.int .i64 x0, .int .i64 x1], .agg #[.int .i64 x0, .int .i64 x1]] W (IsB true W) := by
  have HB0 := Lib.hid (show Below W.heap.size W ((W.alloc (.cells #[.int .i64 x0, .int .i64 x1] 38)).alloc (.cells #[.int .i64 x0, .int .i64 x1] 38)) from ((Below.refl _ _).alloc (Nat.le_refl _) _).alloc (by simp) _)
  go_enter Try.func66, Try.ntmps66
  go_wp2
  all_goals
    go_ret
    exact ⟨rfl, HB0.out⟩


theorem sizeq_Int64S : (I).size = 1 := rfl
set_option maxRecDepth 100000 in
set_option maxHeartbeats 3200000 in
theorem eq_Int64S {L : List (Int)} {a a' : Option Addr} {cap cap' : Nat} {W : World} (h : RdSl I W W.heap.size L a cap) (h' : RdSl I W W.heap.size L a' cap') : Calls Try.prog 14 #[.slice a L.length cap, .slice a' L.length cap'] W (IsB true W) := by
  have hn : L.length ≤ 9223372036854775807 := by have h1 := h.1; have h2 := h.2.1; unfold maxLen at h2; omega
  have H := Lib.hid h
  have H' := Lib.hid h'
  clear h h'
  go_enter Try.func14, Try.ntmps14
  go_wp2
  go_loopw [5] (fun i wr => ∃ k : Nat, k ≤ L.length ∧ i = .int .i64 k ∧ Below W.heap.size W wr) (fun i _ => L.length - (intOf i).toNat)
  case atStart => exact ⟨0, Nat.zero_le _, rfl, Below.refl _ _⟩
  case round =>
    obtain ⟨k, hk, rfl, hB⟩ := hrel
    have HB := Lib.hid hB
    have hsz := hB.size
    by_cases hlt : k < L.length
    · obtain ⟨x, hx⟩ := el_some hlt
      have HX := Lib.hid hx
      obtain ⟨g, o, us, rfl, hg, hu, hr⟩ := (H.out.below I_ok hB).at_ hx
      obtain ⟨g', o', vs, rfl, hg', hu', hr'⟩ := (H'.out.below I_ok hB).at_ hx
      obtain rfl : us = [_] := hr
      obtain rfl : vs = [_] := hr'
      have e0 : wr.cell? ⟨g, o + k, none⟩ = some (.int .i64 x) := by simpa [sizeq_Int64S, Nat.add_assoc] using hu 0 _ rfl
      have d0 : wr.cell? ⟨g', o' + k, none⟩ = some (.int .i64 x) := by simpa [sizeq_Int64S, Nat.add_assoc] using hu' 0 _ rfl
      have hi0 : (0 : Int) ≤ (k : Int) := Int.natCast_nonneg _
      have hi1 : (k : Int) < (L.length : Int) := by omega
      have hgl : g < wr.heap.size := Nat.lt_of_lt_of_le hg hsz
      have hgl' : g' < wr.heap.size := Nat.lt_of_lt_of_le hg' hsz
      clear hB hx hu hu'
      go_wp2_with fail
      go_quiet (fail)
      all_goals
        go_wp2
        go_roundw
        case rel => exact ⟨k + 1, by omega, by go_num, by first | exact bdrewN HB.out _ | exact HB.out.drew | exact HB.out⟩
        case measure => simp [intOf]; omega
    · clear hB
      go_wp2
      go_ret
      exact ⟨rfl, HB.out⟩


theorem sizeq_JobS : (R_Job).size = 9 := rfl
theorem flat_Int64S (L : List (Int)) : (Sl I).sz L = L.length := by
  have : sumL (I).sz L = 0 := sumL_zero (fun _ => rfl) L
  simp only [Sl, this, Nat.add_zero]
set_option maxRecDepth 100000 in
theorem sz_Int64S {L : List (Int)} {a : Option Addr} {cap : Nat} {W : World} {l : Int} (h0 : 0 ≤ l) (h1 : l ≤ 1048576) (h : RdSl I W W.heap.size L a cap) : Calls Try.prog 70 #[.slice a L.length cap, .int .i64 l] W (SzC l ((Sl I).sz L) W) := by
  have hn : L.length ≤ 9223372036854775807 := by have h1 := h.1; have h2 := h.2.1; unfold maxLen at h2; omega
  rw [flat_Int64S]
  clear h
  by_cases hf : (L.length : Int) ≤ l
  · have HR := Lib.hid (szR_yes hf)
    go_enter Try.func70, Try.ntmps70
    go_wp2
    go_ret
    exact ⟨by first | (rw [HR.out]; done) | (rw [HR.out]; rfl), Below.refl _ _⟩
  · have HR := Lib.hid (szR_no hf)
    go_enter Try.func70, Try.ntmps70
    go_wp2
    go_ret
    exact ⟨by first | (rw [HR.out]; done) | (rw [HR.out]; rfl), Below.refl _ _⟩


theorem szd_Job {x0 : Int} {x1 : Int} {x2 : Int} {x3 : Int} {x4 : Int} {x5 : Int} {x6 : Int} {x7 : Int} {L0 : List (Int)} : R_Job.sz ((x0, x1), x2, x3, x4, x5, x6, x7, L0) = (((Sl I)).sz L0) := by
  simp only [R_Job, Pr, I, Bo, atom, R_Label]; omega
theorem sizz_JobS : (R_Job).size = 9 := rfl
theorem szd_JobS (L : List (D_Job)) : (Sl R_Job).sz L = L.length + sumL (R_Job).sz L := rfl
theorem mmk_Label {k : Int} : R_Label.mm (k, k + 1) k (k + 1 + 1) := by
  dsimp only [R_Label, Pr, I, atom, Sl]
  exact ⟨k + 1, ⟨by omega, by omega⟩, ⟨by omega, by omega⟩⟩
theorem mme_Label {k k' : Int} {x0 : Int} {x1 : Int} (h : R_Label.mm (x0, x1) k k') : x0 = k ∧ x1 = k + 1 ∧ k' = k + 1 + 1 := by
  dsimp only [R_Label, Pr, I, atom, Sl] at h
  obtain ⟨z1, h1, g1⟩ := h
  obtain ⟨e0, f0⟩ := h1
  have e0 : x0 = _ := e0
  obtain ⟨e1, f1⟩ := g1
  have e1 : x1 = _ := e1
  exact ⟨by omega, by omega, by omega⟩
theorem R_Label_mn : Mn R_Label := (Pr_mn I_mn I_mn)

theorem mmk_Job {k kk0 : Int} {L0 : List (Int)} (m_L0 : mmL I L0 (k + 1 + 1 + 1 + 1 + 1 + 1 + 1 + 1) kk0) : R_Job.mm ((k, k + 1), k + 1 + 1, k + 1 + 1 + 1, k + 1 + 1 + 1 + 1, k + 1 + 1 + 1 + 1 + 1, k + 1 + 1 + 1 + 1 + 1 + 1, k + 1 + 1 + 1 + 1 + 1 + 1 + 1, L0) k (kk0) := by
  dsimp only [R_Job, R_Label, Pr, I, atom, Sl]
  exact ⟨k + 1 + 1, ⟨k + 1, ⟨by omega, by omega⟩, ⟨by omega, by omega⟩⟩, ⟨k + 1 + 1 + 1, ⟨by omega, by omega⟩, ⟨k + 1 + 1 + 1 + 1, ⟨by omega, by omega⟩, ⟨k + 1 + 1 + 1 + 1 + 1, ⟨by omega, by omega⟩, ⟨k + 1 + 1 + 1 + 1 + 1 + 1, ⟨by omega, by omega⟩, ⟨k + 1 + 1 + 1 + 1 + 1 + 1 + 1, ⟨by omega, by omega⟩, ⟨k + 1 + 1 + 1 + 1 + 1 + 1 + 1 + 1, ⟨by omega, by omega⟩, m_L0⟩⟩⟩⟩⟩⟩⟩
theorem mme_Job {k k' : Int} {x0 : Int} {x1 : Int} {x2 : Int} {x3 : Int} {x4 : Int} {x5 : Int} {x6 : Int} {x7 : Int} {L0 : List (Int)} (h : R_Job.mm ((x0, x1), x2, x3, x4, x5, x6, x7, L0) k k') : ∃ kk0, x0 = k ∧ x1 = k + 1 ∧ x2 = k + 1 + 1 ∧ x3 = k + 1 + 1 + 1 ∧ x4 = k + 1 + 1 + 1 + 1 ∧ x5 = k + 1 + 1 + 1 + 1 + 1 ∧ x6 = k + 1 + 1 + 1 + 1 + 1 + 1 ∧ x7 = k + 1 + 1 + 1 + 1 + 1 + 1 + 1 ∧ mmL I L0 (k + 1 + 1 + 1 + 1 + 1 + 1 + 1 + 1) kk0 ∧ k' = kk0 := by
  dsimp only [R_Job, R_Label, Pr, I, atom, Sl] at h
  obtain ⟨z1, h1, g1⟩ := h
  obtain ⟨z2, h2, g2⟩ := h1
  obtain ⟨e0, f0⟩ := h2
  have e0 : x0 = _ := e0
  obtain ⟨e1, f1⟩ := g2
  have e1 : x1 = _ := e1
  obtain ⟨z3, h3, g3⟩ := g1
  obtain ⟨e2, f2⟩ := h3
  have e2 : x2 = _ := e2
  obtain ⟨z4, h4, g4⟩ := g3
  obtain ⟨e3, f3⟩ := h4
  have e3 : x3 = _ := e3
  obtain ⟨z5, h5, g5⟩ := g4
  obtain ⟨e4, f4⟩ := h5
  have e4 : x4 = _ := e4
  obtain ⟨z6, h6, g6⟩ := g5
  obtain ⟨e5, f5⟩ := h6
  have e5 : x5 = _ := e5
  obtain ⟨z7, h7, g7⟩ := g6
  obtain ⟨e6, f6⟩ := h7
  have e6 : x6 = _ := e6
  obtain ⟨z8, h8, g8⟩ := g7
  obtain ⟨e7, f7⟩ := h8
  have e7 : x7 = _ := e7
  have m_L0 : mmL I L0 _ _ := g8
  exact ⟨_, by omega, by omega, by omega, by omega, by omega, by omega, by omega, by omega, cast_mm m_L0 (by omega) rfl, by omega⟩
theorem R_Job_mn : Mn R_Job := (Pr_mn R_Label_mn (Pr_mn I_mn (Pr_mn I_mn (Pr_mn I_mn (Pr_mn I_mn (Pr_mn I_mn (Pr_mn I_mn (Sl_mn I_mn))))))))


theorem sizm_Int64S : (I).size = 1 := rfl
set_option maxRecDepth 100000 in
set_option maxHeartbeats 3200000 in
theorem mark_Int64S {L : List (Int)} {a : Option Addr} {cap : Nat} {W : World} {S : Nat → Prop} {k : Int} (h0 : 0 ≤ k) (h1 : k + (sumL (I).cm L : Nat) ≤ 4611686018427387904) (hS : ∀ i, S i → i < W.heap.size) (h : OwSl I W S L a cap) : Calls Try.prog 17 #[.slice a L.length cap, .int .i64 k] W (MarkR I S L a cap k W) := by
  have hcap := h.1
  have hmax := h.2.1
  have hn : L.length ≤ 9223372036854775807 := by have h2 := h.2.1; unfold maxLen at h2; omega
  have H := Lib.hid h
  have HCAP := Lib.hid hcap
  have HMAX := Lib.hid hmax
  clear h hcap hmax
  rcases Nat.eq_zero_or_pos L.length with hz | hpos
  · have HR := Lib.hid (MarkR.none_ (k := k) H.out hz)
    have HZ := Lib.hid hz
    rw [hz]
    clear hz
    go_enter Try.func17, Try.ntmps17
    go_wp2
    go_loopw [5, 1] (fun i q wr => i = .int .i64 0 ∧ q = .int .i64 k ∧ wr = W) (fun i _ _ => 0)
    case atStart => exact ⟨rfl, rfl, rfl⟩
    case round =>
      obtain ⟨rfl, rfl, rfl⟩ := hrel
      go_wp2
      go_ret
      exact HR.out
  · obtain ⟨g, Sf, rfl, hrow⟩ := H.out.row hpos
    have HM := Lib.hid (Mkd.start (k := k) hrow)
    clear hrow
    go_enter Try.func17, Try.ntmps17
    go_wp2
    go_loopw [5, 1] (fun i q wr => ∃ j : Nat, j ≤ L.length ∧ i = .int .i64 j ∧ ∃ (M : List (Int)) (z : Int), q = .int .i64 z ∧ Mkd I W wr S L g Sf k z j M) (fun i _ _ => L.length - (intOf i).toNat)
    case atStart => exact ⟨0, Nat.zero_le _, rfl, _, _, rfl, HM.out⟩
    case round =>
      obtain ⟨j, hj, rfl, M, z, rfl, hM⟩ := hrel
      have HM2 := Lib.hid hM
      have hSw : ∀ i, S i → i < wr.heap.size := fun i hi => Nat.lt_of_lt_of_le (hS i hi) hM.off.size
      have HSW := Lib.hid hSw
      by_cases hlt : j < L.length
      · obtain ⟨x, hx⟩ := el_some hlt
        have HX := Lib.hid hx
        have hcm := sumL_take (I).cm hx
        have hle := sumL_take_le (I).cm L (j + 1)
        have hnum := hM.num
        obtain ⟨us, hu, hr⟩ := hM.el hx
        obtain rfl : us = [_] := hr
        have hgl : g < wr.heap.size := hSw g hM.row.own
        have hi0 : (0 : Int) ≤ (j : Int) := Int.natCast_nonneg _
        have hi1 : (j : Int) < (L.length : Int) := by omega
        have hz0 : 0 ≤ z := by omega
        have e0 : wr.cell? ⟨g, j, none⟩ = some (.int .i64 x) := by simpa [sizm_Int64S] using hu 0 _ rfl
        have s0 := hM.row.soft j
        have hz1 : z + 1 ≤ 4611686018427387904 := by rw [hcm] at hle; have : I.cm x = 1 := rfl; omega
        have HSTEP := Lib.hid (HM2.out.step I_ok (w' := putCells wr g (j * 1) [.int .i64 z]) (y := z) (us := [.int .i64 z]) (q' := z + 1) HSW.out HX.out (Upd.put wr (Sf j) (o := j * 1) ⟨by simp [sizm_Int64S], by first | (simp [sizm_Int64S]; done) | (simp [sizm_Int64S]; omega)⟩) ((putCells_off g _ wr _).more (fun x e => by rw [e]; exact HM2.out.row.own)) (by simpa [sizm_Int64S] using putCells_cells g [.int .i64 z] wr (j * 1) (fun p hp => by simp at hp; subst hp; exact ⟨_, by simpa using e0⟩)) rfl ⟨rfl, rfl⟩ rfl)
        clear hM hSw hx hu hcm hle hnum
        go_wp2
        go_roundw
        case rel => exact ⟨j + 1, by omega, by go_num, _, _, rfl, by simpa [putCells] using HSTEP.out⟩
        case measure => simp [intOf]; omega
      · obtain rfl : j = L.length := by omega
        have HR := Lib.hid (HM2.out.done HCAP.out HMAX.out)
        clear hM hSw
        go_wp2
        go_ret
        exact HR.out


theorem sizm_JobS : (R_Job).size = 9 := rfl
/-- a struct by value, marked in its slices -/
def MarkV_Job (x0 : Int) (x1 : Int) (x2 : Int) (x3 : Int) (x4 : Int) (x5 : Int) (x6 : Int) (x7 : Int) (L0 : List (Int)) (a0 : Option Addr) (c0 : Nat) (T0 : Nat → Prop) (k : Int) (W : World) (e : Ending) (w' : World) : Prop := ∃ z0 : Int, ∃ (y0 : List (Int)), e = .returned (.int .i64 z0) ∧ (y0.length = L0.length ∧ mmL I y0 k z0 ∧ z0 = k + (sumL (I).cm L0 : Nat) ∧ OwSl I w' T0 y0 a0 c0) ∧ Off (fun q => T0 q) W w'
end Go.Proofs.Ytmmnkdilnlhbfaa.RepC
