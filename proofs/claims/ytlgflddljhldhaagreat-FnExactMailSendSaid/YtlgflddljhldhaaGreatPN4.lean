/- Of this claim's texts the part 4: JobT PoolT. -/
import Derived.Test.YtlgflddljhldhaaGreatPN0
import Derived.Test.YtlgflddljhldhaaGreatPN3
section
namespace Go.Proofs.YtlgflddljhldhaaGreat.RepC
open Go.RowKit RowC ValC
set_option linter.unusedVariables false
set_option linter.unusedSimpArgs false
abbrev D_Label : Type := (Int) × (Int)
def R_Label : Rp D_Label := (Pr I I)
theorem R_Label_ok : Ok R_Label := (Pr_ok I_ok I_ok)
theorem rd_Label {W : World} {B : Nat} {x0 : Int} {x1 : Int} {cs : List Value} (h : R_Label.rd W B (x0, x1) cs) : cs = [.int .i64 x0, .int .i64 x1] := by
  obtain ⟨u1, v1, rfl, h1, g1⟩ := h
  obtain rfl : u1 = [_] := h1
  obtain rfl : v1 = [_] := g1
  rfl
theorem mkrd_Label {W : World} {B : Nat} {x0 : Int} {x1 : Int}  : R_Label.rd W B (x0, x1) [.int .i64 x0, .int .i64 x1] := ⟨[.int .i64 x0], [.int .i64 x1], rfl, rfl, rfl⟩
theorem mkow_Label {W : World} {S : Nat → Prop} {x0 : Int} {x1 : Int}  : R_Label.ow W S (x0, x1) [.int .i64 x0, .int .i64 x1] := ⟨[.int .i64 x0], [.int .i64 x1], (fun _ => False), (fun _ => False), rfl, (fun k h => h.elim), (fun k h => h.elim), (fun k h h' => h.elim), rfl, rfl⟩
theorem ow0_Label {W : World} {S : Nat → Prop} {x0 : Int} {x1 : Int} {cs : List Value} (h : R_Label.ow W S (x0, x1) cs) : cs = [.int .i64 x0, .int .i64 x1] := by
  obtain ⟨u1, v1, A1, B1, rfl, sa1, sb1, dd1, h1, g1⟩ := h
  obtain rfl : u1 = [_] := h1
  obtain rfl : v1 = [_] := g1
  rfl
theorem size_Int64S : (I).size = 1 := rfl
def zs_Int64S (n : Nat) : Array Value := madeCells #[.int .i64 0] (n * 1)
theorem zs_Int64S_size (n : Nat) : (zs_Int64S n).size = n * (I).size := by unfold zs_Int64S; simp [madeCells, size_Int64S]
theorem make_Int64S (n : Nat) (hn : n ≤ 1048576) : ∀ W : World, (Instr.makeSlice 70 (.int .i64 (n : Int)) (.int .i64 (n : Int))).run Tryz.prog W = .ok (.slice (some ⟨W.heap.size, 0, none⟩) n n) (W.alloc (.cells (zs_Int64S n) 2)) := by
  intro W
  obtain ⟨i, hi, hz, hs, hb⟩ : ∃ i, Tryz.prog.info? 2 = some i ∧ i.zero = some (.int .i64 0) ∧ i.size = 1 ∧ i.bytes = 8 := by
    have h : (Tryz.prog.info? 2).map (fun i => (i.zero, i.size, i.bytes)) = some (some (.int .i64 0), 1, 8) := by kernel_rfl
    cases hx : Tryz.prog.info? 2 with
    | none => rw [hx] at h; simp at h
    | some i => rw [hx] at h; simp at h; exact ⟨i, rfl, h.1, h.2.1, h.2.2⟩
  have hr := run_make (P := Tryz.prog) W 70 2 i _ Tryz.underlying70 hi hz .i64 .i64 n n (by omega) (by omega) (by rw [hb]; omega) (by omega)
  rw [hs] at hr
  simp only [Int.toNat_natCast] at hr
  exact hr
set_option maxRecDepth 100000 in
set_option maxHeartbeats 3200000 in
theorem to_Int64S {L : List (Int)} {a : Option Addr} {cap : Nat} {W : World} (hsz : ((Sl I)).sz L ≤ 1048576) (h : RdSl I W W.heap.size L a cap) : Calls Tryz.prog 106 #[.slice a L.length cap] W (NewS I L W) := by
  have hn : L.length ≤ 1048576 := Nat.le_trans (Nat.le_add_right _ _) hsz
  have hmk := make_Int64S L.length hn
  have H := Lib.hid h
  have HSZ := Lib.hid hsz
  clear h hsz
  go_enter Tryz.func106, Tryz.ntmps106
  go_wp2
  go_loopw [4] (fun i wr => ∃ k : Nat, k ≤ L.length ∧ i = .int .i64 k ∧ ∃ Sf, Fil I W wr L W.heap.size Sf k) (fun i _ => L.length - (intOf i).toNat)
  case atStart => exact ⟨0, Nat.zero_le _, rfl, _, Fil.new (by exact zs_Int64S_size _)⟩
  case round =>
    obtain ⟨k, hk, rfl, Sf, hF⟩ := hrel
    have HF := Lib.hid hF
    by_cases hlt : k < L.length
    · obtain ⟨x, hx⟩ := el_some hlt
      have HX := Lib.hid hx
      obtain ⟨g, o, us, rfl, hg, hu, hr⟩ := (H.out.below I_ok hF.below).at_ hx
      obtain rfl : us = [_] := hr
      have e0 : wr.cell? ⟨g, o + k, none⟩ = some (.int .i64 x) := by simpa [size_Int64S, Nat.add_assoc] using hu 0 _ rfl
      have hi0 : (0 : Int) ≤ (k : Int) := Int.natCast_nonneg _
      have hi1 : (k : Int) < (L.length : Int) := by omega
      have HP := Lib.hid (HF.out.put I_ok (us := [.int .i64 x]) HX.out (Below.refl _ _) rfl)
      obtain ⟨t0, ht0⟩ := HF.out.there k (by rw [size_Int64S]; omega)
      have hs0 := HF.out.soft k
      clear hF hx hu hmk
      go_wp2
      go_roundw
      case rel => exact ⟨k + 1, by omega, by go_num, _, by simpa [putCells, size_Int64S] using HP.out⟩
      case measure => simp [intOf]; omega
    · obtain rfl : k = L.length := by omega
      have HR := Lib.hid (HF.out.news (by unfold maxLen; omega))
      clear hF hmk
      go_wp2
      go_ret
      exact HR.out
set_option maxRecDepth 100000 in
set_option maxHeartbeats 3200000 in
theorem to_Label {x0 : Int} {x1 : Int}  {W : World} (hsz : R_Label.sz (x0, x1) ≤ 1048576) : Calls Tryz.prog 13 #[.agg #[.int .i64 x0, .int .i64 x1]] W (NewV R_Label (x0, x1) W) := by
  have HSZ := Lib.hid hsz
  clear hsz
  go_enter Tryz.func13, Tryz.ntmps13
  go_wp2
  refine bodyPost_ret (v := .agg #[.int .i64 x0, .int .i64 x1]) (by simp [results, Tryz.results13, go_sem]) rfl ⟨[.int .i64 x0, .int .i64 x1], rfl, mkow_Label, (by repeat (first | exact Below.refl _ _ | refine Below.drew ?_ | refine Below.setCell ?_ (by first | omega | (simp; done) | (simp; omega)) _ | refine Below.alloc ?_ (by first | omega | (simp; done) | (simp; omega)) _))⟩
set_option maxRecDepth 100000 in
set_option maxHeartbeats 3200000 in
theorem eq_Label {x0 : Int} {x1 : Int}   {W : World} : Calls Tryz.prog 115 #[.agg #[.int .i64 x0, .int .i64 x1], .agg #[.int .i64 x0, .int .i64 x1]] W (IsB true W) := by
  have HB0 := Lib.hid (show Below W.heap.size W ((W.alloc (.cells #[.int .i64 x0, .int .i64 x1] 47)).alloc (.cells #[.int .i64 x0, .int .i64 x1] 47)) from ((Below.refl _ _).alloc (Nat.le_refl _) _).alloc (by simp) _)
  go_enter Tryz.func115, Tryz.ntmps115
  go_wp2
  all_goals
    go_ret
    exact ⟨rfl, HB0.out⟩
theorem sizeq_Int64S : (I).size = 1 := rfl
set_option maxRecDepth 100000 in
set_option maxHeartbeats 3200000 in
theorem eq_Int64S {L : List (Int)} {a a' : Option Addr} {cap cap' : Nat} {W : World} (h : RdSl I W W.heap.size L a cap) (h' : RdSl I W W.heap.size L a' cap') : Calls Tryz.prog 116 #[.slice a L.length cap, .slice a' L.length cap'] W (IsB true W) := by
  have hn : L.length ≤ 9223372036854775807 := by have h1 := h.1; have h2 := h.2.1; unfold maxLen at h2; omega
  have H := Lib.hid h
  have H' := Lib.hid h'
  clear h h'
  go_enter Tryz.func116, Tryz.ntmps116
  go_wp2
  go_loopw [5] (fun i wr => ∃ k : Nat, k ≤ L.length ∧ i = .int .i64 k ∧ Below W.heap.size W wr) (fun i _ => L.length - (intOf i).toNat)
  case atStart => exact ⟨0, Nat.zero_le _, rfl, Below.refl _ _⟩
  case round =>
    obtain ⟨k, hk, rfl, hB⟩ := hrel
    have HB := Lib.hid hB
    have hsz := hB.size
    by_cases hlt : k < L.length
    · obtain ⟨x, hx⟩ := el_some hlt
      have HX := Lib.hid hx
      obtain ⟨g, o, us, rfl, hg, hu, hr⟩ := (H.out.below I_ok hB).at_ hx
      obtain ⟨g', o', vs, rfl, hg', hu', hr'⟩ := (H'.out.below I_ok hB).at_ hx
      obtain rfl : us = [_] := hr
      obtain rfl : vs = [_] := hr'
      have e0 : wr.cell? ⟨g, o + k, none⟩ = some (.int .i64 x) := by simpa [sizeq_Int64S, Nat.add_assoc] using hu 0 _ rfl
      have d0 : wr.cell? ⟨g', o' + k, none⟩ = some (.int .i64 x) := by simpa [sizeq_Int64S, Nat.add_assoc] using hu' 0 _ rfl
      have hi0 : (0 : Int) ≤ (k : Int) := Int.natCast_nonneg _
      have hi1 : (k : Int) < (L.length : Int) := by omega
      have hgl : g < wr.heap.size := Nat.lt_of_lt_of_le hg hsz
      have hgl' : g' < wr.heap.size := Nat.lt_of_lt_of_le hg' hsz
      clear hB hx hu hu'
      go_wp2_with fail
      go_quiet (fail)
      all_goals
        go_wp2
        go_roundw
        case rel => exact ⟨k + 1, by omega, by go_num, by first | exact bdrewN HB.out _ | exact HB.out.drew | exact HB.out⟩
        case measure => simp [intOf]; omega
    · clear hB
      go_wp2
      go_ret
      exact ⟨rfl, HB.out⟩
theorem flat_Int64S (L : List (Int)) : (Sl I).sz L = L.length := by
  have : sumL (I).sz L = 0 := sumL_zero (fun _ => rfl) L
  simp only [Sl, this, Nat.add_zero]
set_option maxRecDepth 100000 in
theorem sz_Int64S {L : List (Int)} {a : Option Addr} {cap : Nat} {W : World} {l : Int} (h0 : 0 ≤ l) (h1 : l ≤ 1048576) (h : RdSl I W W.heap.size L a cap) : Calls Tryz.prog 100 #[.slice a L.length cap, .int .i64 l] W (SzC l ((Sl I).sz L) W) := by
  have hn : L.length ≤ 9223372036854775807 := by have h1 := h.1; have h2 := h.2.1; unfold maxLen at h2; omega
  rw [flat_Int64S]
  clear h
  by_cases hf : (L.length : Int) ≤ l
  · have HR := Lib.hid (szR_yes hf)
    go_enter Tryz.func100, Tryz.ntmps100
    go_wp2
    go_ret
    exact ⟨by first | (rw [HR.out]; done) | (rw [HR.out]; rfl), Below.refl _ _⟩
  · have HR := Lib.hid (szR_no hf)
    go_enter Tryz.func100, Tryz.ntmps100
    go_wp2
    go_ret
    exact ⟨by first | (rw [HR.out]; done) | (rw [HR.out]; rfl), Below.refl _ _⟩
theorem mmk_Label {k : Int} : R_Label.mm (k, k + 1) k (k + 1 + 1) := by
  dsimp only [R_Label, Pr, I, atom, Sl]
  exact ⟨k + 1, ⟨by omega, by omega⟩, ⟨by omega, by omega⟩⟩
theorem sizm_Int64S : (I).size = 1 := rfl
set_option maxRecDepth 100000 in
set_option maxHeartbeats 3200000 in
theorem mark_Int64S {L : List (Int)} {a : Option Addr} {cap : Nat} {W : World} {S : Nat → Prop} {k : Int} (h0 : 0 ≤ k) (h1 : k + (sumL (I).cm L : Nat) ≤ 4611686018427387904) (hS : ∀ i, S i → i < W.heap.size) (h : OwSl I W S L a cap) : Calls Tryz.prog 91 #[.slice a L.length cap, .int .i64 k] W (MarkR I S L a cap k W) := by
  have hcap := h.1
  have hmax := h.2.1
  have hn : L.length ≤ 9223372036854775807 := by have h2 := h.2.1; unfold maxLen at h2; omega
  have H := Lib.hid h
  have HCAP := Lib.hid hcap
  have HMAX := Lib.hid hmax
  clear h hcap hmax
  rcases Nat.eq_zero_or_pos L.length with hz | hpos
  · have HR := Lib.hid (MarkR.none_ (k := k) H.out hz)
    have HZ := Lib.hid hz
    rw [hz]
    clear hz
    go_enter Tryz.func91, Tryz.ntmps91
    go_wp2
    go_loopw [5, 1] (fun i q wr => i = .int .i64 0 ∧ q = .int .i64 k ∧ wr = W) (fun i _ _ => 0)
    case atStart => exact ⟨rfl, rfl, rfl⟩
    case round =>
      obtain ⟨rfl, rfl, rfl⟩ := hrel
      go_wp2
      go_ret
      exact HR.out
  · obtain ⟨g, Sf, rfl, hrow⟩ := H.out.row hpos
    have HM := Lib.hid (Mkd.start (k := k) hrow)
    clear hrow
    go_enter Tryz.func91, Tryz.ntmps91
    go_wp2
    go_loopw [5, 1] (fun i q wr => ∃ j : Nat, j ≤ L.length ∧ i = .int .i64 j ∧ ∃ (M : List (Int)) (z : Int), q = .int .i64 z ∧ Mkd I W wr S L g Sf k z j M) (fun i _ _ => L.length - (intOf i).toNat)
    case atStart => exact ⟨0, Nat.zero_le _, rfl, _, _, rfl, HM.out⟩
    case round =>
      obtain ⟨j, hj, rfl, M, z, rfl, hM⟩ := hrel
      have HM2 := Lib.hid hM
      have hSw : ∀ i, S i → i < wr.heap.size := fun i hi => Nat.lt_of_lt_of_le (hS i hi) hM.off.size
      have HSW := Lib.hid hSw
      by_cases hlt : j < L.length
      · obtain ⟨x, hx⟩ := el_some hlt
        have HX := Lib.hid hx
        have hcm := sumL_take (I).cm hx
        have hle := sumL_take_le (I).cm L (j + 1)
        have hnum := hM.num
        obtain ⟨us, hu, hr⟩ := hM.el hx
        obtain rfl : us = [_] := hr
        have hgl : g < wr.heap.size := hSw g hM.row.own
        have hi0 : (0 : Int) ≤ (j : Int) := Int.natCast_nonneg _
        have hi1 : (j : Int) < (L.length : Int) := by omega
        have hz0 : 0 ≤ z := by omega
        have e0 : wr.cell? ⟨g, j, none⟩ = some (.int .i64 x) := by simpa [sizm_Int64S] using hu 0 _ rfl
        have s0 := hM.row.soft j
        have hz1 : z + 1 ≤ 4611686018427387904 := by rw [hcm] at hle; have : I.cm x = 1 := rfl; omega
        have HSTEP := Lib.hid (HM2.out.step I_ok (w' := putCells wr g (j * 1) [.int .i64 z]) (y := z) (us := [.int .i64 z]) (q' := z + 1) HSW.out HX.out (Upd.put wr (Sf j) (o := j * 1) ⟨by simp [sizm_Int64S], by first | (simp [sizm_Int64S]; done) | (simp [sizm_Int64S]; omega)⟩) ((putCells_off g _ wr _).more (fun x e => by rw [e]; exact HM2.out.row.own)) (by simpa [sizm_Int64S] using putCells_cells g [.int .i64 z] wr (j * 1) (fun p hp => by simp at hp; subst hp; exact ⟨_, by simpa using e0⟩)) rfl ⟨rfl, rfl⟩ rfl)
        clear hM hSw hx hu hcm hle hnum
        go_wp2
        go_roundw
        case rel => exact ⟨j + 1, by omega, by go_num, _, _, rfl, by simpa [putCells] using HSTEP.out⟩
        case measure => simp [intOf]; omega
      · obtain rfl : j = L.length := by omega
        have HR := Lib.hid (HM2.out.done HCAP.out HMAX.out)
        clear hM hSw
        go_wp2
        go_ret
        exact HR.out
end Go.Proofs.YtlgflddljhldhaaGreat.RepC
end
section
namespace Go.Proofs.YtlgflddljhldhaaGreat.RepC
open Go.RowKit RowC ValC
set_option linter.unusedVariables false
set_option linter.unusedSimpArgs false
theorem size_LabelS : (R_Label).size = 2 := rfl
def zs_LabelS (n : Nat) : Array Value := madeCells #[.int .i64 0, .int .i64 0] (n * 2)
theorem zs_LabelS_size (n : Nat) : (zs_LabelS n).size = n * (R_Label).size := by unfold zs_LabelS; simp [madeCells, size_LabelS]
theorem make_LabelS (n : Nat) (hn : n ≤ 1048576) : ∀ W : World, (Instr.makeSlice 119 (.int .i64 (n : Int)) (.int .i64 (n : Int))).run Tryz.prog W = .ok (.slice (some ⟨W.heap.size, 0, none⟩) n n) (W.alloc (.cells (zs_LabelS n) 47)) := by
  intro W
  obtain ⟨i, hi, hz, hs, hb⟩ : ∃ i, Tryz.prog.info? 47 = some i ∧ i.zero = some (.agg #[.int .i64 0, .int .i64 0]) ∧ i.size = 2 ∧ i.bytes = 16 := by
    have h : (Tryz.prog.info? 47).map (fun i => (i.zero, i.size, i.bytes)) = some (some (.agg #[.int .i64 0, .int .i64 0]), 2, 16) := by kernel_rfl
    cases hx : Tryz.prog.info? 47 with
    | none => rw [hx] at h; simp at h
    | some i => rw [hx] at h; simp at h; exact ⟨i, rfl, h.1, h.2.1, h.2.2⟩
  have hr := run_make (P := Tryz.prog) W 119 47 i _ Tryz.underlying119 hi hz .i64 .i64 n n (by omega) (by omega) (by rw [hb]; omega) (by omega)
  rw [hs] at hr
  simp only [Int.toNat_natCast] at hr
  exact hr
set_option maxRecDepth 100000 in
set_option maxHeartbeats 3200000 in
theorem to_LabelS {L : List (D_Label)} {a : Option Addr} {cap : Nat} {W : World} (hsz : ((Sl R_Label)).sz L ≤ 1048576) (h : RdSl R_Label W W.heap.size L a cap) : Calls Tryz.prog 75 #[.slice a L.length cap] W (NewS R_Label L W) := by
  have hn : L.length ≤ 1048576 := Nat.le_trans (Nat.le_add_right _ _) hsz
  have hmk := make_LabelS L.length hn
  have H := Lib.hid h
  have HSZ := Lib.hid hsz
  clear h hsz
  go_enter Tryz.func75, Tryz.ntmps75
  go_wp2
  go_loopw [4] (fun i wr => ∃ k : Nat, k ≤ L.length ∧ i = .int .i64 k ∧ ∃ Sf, Fil R_Label W wr L W.heap.size Sf k) (fun i _ => L.length - (intOf i).toNat)
  case atStart => exact ⟨0, Nat.zero_le _, rfl, _, Fil.new (by exact zs_LabelS_size _)⟩
  case round =>
    obtain ⟨k, hk, rfl, Sf, hF⟩ := hrel
    have HF := Lib.hid hF
    by_cases hlt : k < L.length
    · obtain ⟨⟨x0, x1⟩, hx⟩ := el_some hlt
      have HX := Lib.hid hx
      obtain ⟨g, o, us, rfl, hg, hu, hr⟩ := (H.out.below R_Label_ok hF.below).at_ hx
      obtain rfl := rd_Label hr
      have e0 : wr.cell? ⟨g, o + k * 2, none⟩ = some (.int .i64 x0) := by simpa [size_LabelS, Nat.add_assoc] using hu 0 _ rfl
      have e1 : wr.cell? ⟨g, o + k * 2 + 1, none⟩ = some (.int .i64 x1) := by simpa [size_LabelS, Nat.add_assoc] using hu 1 _ rfl
      have hi0 : (0 : Int) ≤ (k : Int) := Int.natCast_nonneg _
      have hi1 : (k : Int) < (L.length : Int) := by omega
      have HE := Lib.hid (sz_at (f := (R_Label).sz) HX.out HSZ.out)
      clear hF hx hu hmk
      go_wp2_with fail
      refine (to_Label (by exact HE.out)).mono ?_
      intro e w1 h
      obtain ⟨vs, rfl, how, hb⟩ := newV_elim h
      have HOW := Lib.hid how
      obtain rfl := ow0_Label how
      have HP := Lib.hid (HF.out.put R_Label_ok HX.out hb HOW.out)
      have hlt1 := HF.out.lt
      obtain ⟨t0, ht0⟩ := HF.out.there (k * 2) (by rw [size_LabelS]; omega)
      have q0 := (hb.cell (p := ⟨W.heap.size, k * 2, none⟩) hlt1).trans ht0
      have s0 := (hb.frozen (p := ⟨W.heap.size, k * 2, none⟩) hlt1).trans (HF.out.soft (k * 2))
      obtain ⟨t1, ht1⟩ := HF.out.there (k * 2 + 1) (by rw [size_LabelS]; omega)
      have q1 := (hb.cell (p := ⟨W.heap.size, k * 2 + 1, none⟩) hlt1).trans ht1
      have s1 := (hb.frozen (p := ⟨W.heap.size, k * 2 + 1, none⟩) hlt1).trans (HF.out.soft (k * 2 + 1))
      clear h how hb ht0 ht1 e0 e1
      go_wp2
      go_roundw
      case rel => exact ⟨k + 1, by omega, by go_num, _, by simpa [putCells, size_LabelS, Nat.add_assoc] using HP.out⟩
      case measure => simp [intOf]; omega
    · obtain rfl : k = L.length := by omega
      have HR := Lib.hid (HF.out.news (by unfold maxLen; omega))
      clear hF hmk
      go_wp2
      go_ret
      exact HR.out
theorem size_LabelSS : ((Sl R_Label)).size = 1 := rfl
def zs_LabelSS (n : Nat) : Array Value := madeCells #[.slice none 0 0] (n * 1)
theorem zs_LabelSS_size (n : Nat) : (zs_LabelSS n).size = n * ((Sl R_Label)).size := by unfold zs_LabelSS; simp [madeCells, size_LabelSS]
theorem make_LabelSS (n : Nat) (hn : n ≤ 1048576) : ∀ W : World, (Instr.makeSlice 40 (.int .i64 (n : Int)) (.int .i64 (n : Int))).run Tryz.prog W = .ok (.slice (some ⟨W.heap.size, 0, none⟩) n n) (W.alloc (.cells (zs_LabelSS n) 119)) := by
  intro W
  obtain ⟨i, hi, hz, hs, hb⟩ : ∃ i, Tryz.prog.info? 119 = some i ∧ i.zero = some (.slice none 0 0) ∧ i.size = 1 ∧ i.bytes = 24 := by
    have h : (Tryz.prog.info? 119).map (fun i => (i.zero, i.size, i.bytes)) = some (some (.slice none 0 0), 1, 24) := by kernel_rfl
    cases hx : Tryz.prog.info? 119 with
    | none => rw [hx] at h; simp at h
    | some i => rw [hx] at h; simp at h; exact ⟨i, rfl, h.1, h.2.1, h.2.2⟩
  have hr := run_make (P := Tryz.prog) W 40 119 i _ Tryz.underlying40 hi hz .i64 .i64 n n (by omega) (by omega) (by rw [hb]; omega) (by omega)
  rw [hs] at hr
  simp only [Int.toNat_natCast] at hr
  exact hr
set_option maxRecDepth 100000 in
set_option maxHeartbeats 3200000 in
theorem to_LabelSS {L : List (List (D_Label))} {a : Option Addr} {cap : Nat} {W : World} (hsz : ((Sl (Sl R_Label))).sz L ≤ 1048576) (h : RdSl (Sl R_Label) W W.heap.size L a cap) : Calls Tryz.prog 39 #[.slice a L.length cap] W (NewS (Sl R_Label) L W) := by
  have hn : L.length ≤ 1048576 := Nat.le_trans (Nat.le_add_right _ _) hsz
  have hmk := make_LabelSS L.length hn
  have H := Lib.hid h
  have HSZ := Lib.hid hsz
  clear h hsz
  go_enter Tryz.func39, Tryz.ntmps39
  go_wp2
  go_loopw [4] (fun i wr => ∃ k : Nat, k ≤ L.length ∧ i = .int .i64 k ∧ ∃ Sf, Fil (Sl R_Label) W wr L W.heap.size Sf k) (fun i _ => L.length - (intOf i).toNat)
  case atStart => exact ⟨0, Nat.zero_le _, rfl, _, Fil.new (by exact zs_LabelSS_size _)⟩
  case round =>
    obtain ⟨k, hk, rfl, Sf, hF⟩ := hrel
    have HF := Lib.hid hF
    by_cases hlt : k < L.length
    · obtain ⟨x, hx⟩ := el_some hlt
      have HX := Lib.hid hx
      obtain ⟨g, o, us, rfl, hg, hu, hr⟩ := (H.out.below (Sl_ok R_Label_ok) hF.below).at_ hx
      obtain ⟨a1, c1, rfl, k_x⟩ := hr
      have e0 : wr.cell? ⟨g, o + k, none⟩ = some (.slice a1 x.length c1) := by simpa [size_LabelSS, Nat.add_assoc] using hu 0 _ rfl
      have hi0 : (0 : Int) ≤ (k : Int) := Int.natCast_nonneg _
      have hi1 : (k : Int) < (L.length : Int) := by omega
      have HE := Lib.hid (sz_at (f := ((Sl R_Label)).sz) HX.out HSZ.out)
      have HK := Lib.hid (k_x.more R_Label_ok (Nat.le_of_lt HF.out.lt))
      clear hF hx hu hmk k_x
      go_wp2_with fail
      refine (to_LabelS (by exact HE.out) (by exact HK.out)).mono ?_
      intro e w1 h
      obtain ⟨b0, d0, rfl, how, hb⟩ := newS_elim h
      have HOW := Lib.hid (show ((Sl R_Label)).ow _ _ x [.slice b0 x.length d0] from ⟨b0, d0, rfl, how⟩)
      have HP := Lib.hid (HF.out.put (Sl_ok R_Label_ok) HX.out hb HOW.out)
      have hlt1 := HF.out.lt
      obtain ⟨t0, ht0⟩ := HF.out.there (k) (by rw [size_LabelSS]; omega)
      have q0 := (hb.cell (p := ⟨W.heap.size, k, none⟩) hlt1).trans ht0
      have s0 := (hb.frozen (p := ⟨W.heap.size, k, none⟩) hlt1).trans (HF.out.soft (k))
      clear h how hb ht0 e0
      go_wp2
      go_roundw
      case rel => exact ⟨k + 1, by omega, by go_num, _, by simpa [putCells, size_LabelSS, Nat.add_assoc] using HP.out⟩
      case measure => simp [intOf]; omega
    · obtain rfl : k = L.length := by omega
      have HR := Lib.hid (HF.out.news (by unfold maxLen; omega))
      clear hF hmk
      go_wp2
      go_ret
      exact HR.out
theorem sizeq_LabelS : (R_Label).size = 2 := rfl
set_option maxRecDepth 100000 in
set_option maxHeartbeats 3200000 in
theorem eq_LabelS {L : List (D_Label)} {a a' : Option Addr} {cap cap' : Nat} {W : World} (h : RdSl R_Label W W.heap.size L a cap) (h' : RdSl R_Label W W.heap.size L a' cap') : Calls Tryz.prog 86 #[.slice a L.length cap, .slice a' L.length cap'] W (IsB true W) := by
  have hn : L.length ≤ 9223372036854775807 := by have h1 := h.1; have h2 := h.2.1; unfold maxLen at h2; omega
  have H := Lib.hid h
  have H' := Lib.hid h'
  clear h h'
  go_enter Tryz.func86, Tryz.ntmps86
  go_wp2
  go_loopw [5] (fun i wr => ∃ k : Nat, k ≤ L.length ∧ i = .int .i64 k ∧ Below W.heap.size W wr) (fun i _ => L.length - (intOf i).toNat)
  case atStart => exact ⟨0, Nat.zero_le _, rfl, Below.refl _ _⟩
  case round =>
    obtain ⟨k, hk, rfl, hB⟩ := hrel
    have HB := Lib.hid hB
    have hsz := hB.size
    by_cases hlt : k < L.length
    · obtain ⟨⟨x0, x1⟩, hx⟩ := el_some hlt
      have HX := Lib.hid hx
      obtain ⟨g, o, us, rfl, hg, hu, hr⟩ := (H.out.below R_Label_ok hB).at_ hx
      obtain ⟨g', o', vs, rfl, hg', hu', hr'⟩ := (H'.out.below R_Label_ok hB).at_ hx
      obtain rfl := rd_Label hr
      obtain rfl := rd_Label hr'
      have e0 : wr.cell? ⟨g, o + k * 2, none⟩ = some (.int .i64 x0) := by simpa [sizeq_LabelS, Nat.add_assoc] using hu 0 _ rfl
      have d0 : wr.cell? ⟨g', o' + k * 2, none⟩ = some (.int .i64 x0) := by simpa [sizeq_LabelS, Nat.add_assoc] using hu' 0 _ rfl
      have e1 : wr.cell? ⟨g, o + k * 2 + 1, none⟩ = some (.int .i64 x1) := by simpa [sizeq_LabelS, Nat.add_assoc] using hu 1 _ rfl
      have d1 : wr.cell? ⟨g', o' + k * 2 + 1, none⟩ = some (.int .i64 x1) := by simpa [sizeq_LabelS, Nat.add_assoc] using hu' 1 _ rfl
      have hi0 : (0 : Int) ≤ (k : Int) := Int.natCast_nonneg _
      have hi1 : (k : Int) < (L.length : Int) := by omega
      have hgl : g < wr.heap.size := Nat.lt_of_lt_of_le hg hsz
      have hgl' : g' < wr.heap.size := Nat.lt_of_lt_of_le hg' hsz
      clear hB hx hu hu'
      go_wp2_with fail
      refine wp_region_held_drew (S := (fun W => W.cell? ⟨g, o + k * 2, none⟩ = some (.int .i64 x0) ∧ W.cell? ⟨g, o + k * 2 + 1, none⟩ = some (.int .i64 x1) ∧ W.cell? ⟨g', o' + k * 2, none⟩ = some (.int .i64 x0) ∧ W.cell? ⟨g', o' + k * 2 + 1, none⟩ = some (.int .i64 x1) ∧ wr.heap.size ≤ W.heap.size ∧ Below wr.heap.size wr W)) (by kernel_rfl) (⟨e0, e1, d0, d1, Nat.le_refl _, (Below.refl _ _).drew⟩) (fun hHeld => ?_)
      refine wpAnyH_take (i := 0) (v := ?hv1) rfl (by kernel_rfl) (by kernel_rfl) (by kernel_rfl) (fun _ _ _ h => h) (Or.inl ⟨by kernel_rfl, ?hy1⟩) hHeld ?hr1
      case hy1 => (intro w hSw; (try dsimp only at hSw); go_simp; try with_reducible rfl)
      refine wpAnyH_take (i := 1) (v := ?hv2) rfl (by kernel_rfl) (by kernel_rfl) (by kernel_rfl) (fun _ _ _ h => h) (Or.inl ⟨by kernel_rfl, ?hy2⟩) hHeld ?hr2
      case hy2 => (intro w hSw; (try dsimp only at hSw); go_simp; try with_reducible rfl)
      refine wpAnyH_take (i := 2) (v := ?hv3) rfl (by kernel_rfl) (by kernel_rfl) (by kernel_rfl) (fun _ _ _ h => h) (Or.inl ⟨by kernel_rfl, ?hy3⟩) hHeld ?hr3
      case hy3 => (intro w hSw; (try dsimp only at hSw); go_simp; try with_reducible rfl)
      refine wpAnyH_take (i := 3) (v := ?hv4) rfl (by kernel_rfl) (by kernel_rfl) (by kernel_rfl) (fun _ _ _ h => h) (Or.inl ⟨by kernel_rfl, ?hy4⟩) hHeld ?hr4
      case hy4 => (intro w hSw; (try dsimp only at hSw); go_simp; try with_reducible rfl)
      refine wpAnyH_take (i := 4) (v := ?hv5) rfl (by kernel_rfl) (by kernel_rfl) (by kernel_rfl) (fun _ _ _ h => h) (Or.inl ⟨by kernel_rfl, ?hy5⟩) hHeld ?hr5
      case hy5 => (intro w hSw; (try dsimp only at hSw); go_simp; try with_reducible rfl)
      refine wpAnyH_take (i := 5) (v := ?hv6) rfl (by kernel_rfl) (by kernel_rfl) (by kernel_rfl) (fun _ _ _ h => h) (Or.inl ⟨by kernel_rfl, ?hy6⟩) hHeld ?hr6
      case hy6 => (intro w hSw; (try dsimp only at hSw); go_simp; try with_reducible rfl)
      refine wpAnyH_take (i := 6) (v := ?hv7) rfl (by kernel_rfl) (by kernel_rfl) (by kernel_rfl) (fun _ _ _ h => h) (Or.inl ⟨by kernel_rfl, ?hy7⟩) hHeld ?hr7
      case hy7 => (intro w hSw; (try dsimp only at hSw); go_simp; try with_reducible rfl)
      refine wpAnyH_take (i := 7) (v := ?hv8) rfl (by kernel_rfl) (by kernel_rfl) (by kernel_rfl) (fun _ _ _ h => h) (Or.inl ⟨by kernel_rfl, ?hy8⟩) hHeld ?hr8
      case hy8 => (intro w hSw; (try dsimp only at hSw); go_simp; try with_reducible rfl)
      refine rd1 8 (fun K hK => ?_)
      go_simp
      refine (eq_Label).mono ?_
      intro e w1 h
      obtain ⟨rfl, hb⟩ := isB_elim h
      refine hK.out _ _ (⟨(hb.cell (p := ⟨g, o + k * 2, none⟩) (Nat.lt_of_lt_of_le hgl hHeld.2.2.2.2.1)).trans hHeld.1, (hb.cell (p := ⟨g, o + k * 2 + 1, none⟩) (Nat.lt_of_lt_of_le hgl hHeld.2.2.2.2.1)).trans hHeld.2.1, (hb.cell (p := ⟨g', o' + k * 2, none⟩) (Nat.lt_of_lt_of_le hgl' hHeld.2.2.2.2.1)).trans hHeld.2.2.1, (hb.cell (p := ⟨g', o' + k * 2 + 1, none⟩) (Nat.lt_of_lt_of_le hgl' hHeld.2.2.2.2.1)).trans hHeld.2.2.2.1, Nat.le_trans hHeld.2.2.2.2.1 hb.size, hHeld.2.2.2.2.2.trans (hb.mono hHeld.2.2.2.2.1)⟩) (fun hHeld => ?_)
      clear hK K h
      refine tk 9 hHeld ?_
      refine rd0 ?_
      have HB2 := Lib.hid (HB.out.trans (hHeld.2.2.2.2.2.mono hsz))
      clear hHeld
      go_wp2
      go_roundw
      case rel => exact ⟨k + 1, by omega, by go_num, HB2.out⟩
      case measure => simp [intOf]; omega
    · clear hB
      go_wp2
      go_ret
      exact ⟨rfl, HB.out⟩
theorem sizeq_LabelSS : ((Sl R_Label)).size = 1 := rfl
set_option maxRecDepth 100000 in
set_option maxHeartbeats 3200000 in
theorem eq_LabelSS {L : List (List (D_Label))} {a a' : Option Addr} {cap cap' : Nat} {W : World} (h : RdSl (Sl R_Label) W W.heap.size L a cap) (h' : RdSl (Sl R_Label) W W.heap.size L a' cap') : Calls Tryz.prog 51 #[.slice a L.length cap, .slice a' L.length cap'] W (IsB true W) := by
  have hn : L.length ≤ 9223372036854775807 := by have h1 := h.1; have h2 := h.2.1; unfold maxLen at h2; omega
  have H := Lib.hid h
  have H' := Lib.hid h'
  clear h h'
  go_enter Tryz.func51, Tryz.ntmps51
  go_wp2
  go_loopw [5] (fun i wr => ∃ k : Nat, k ≤ L.length ∧ i = .int .i64 k ∧ Below W.heap.size W wr) (fun i _ => L.length - (intOf i).toNat)
  case atStart => exact ⟨0, Nat.zero_le _, rfl, Below.refl _ _⟩
  case round =>
    obtain ⟨k, hk, rfl, hB⟩ := hrel
    have HB := Lib.hid hB
    have hsz := hB.size
    by_cases hlt : k < L.length
    · obtain ⟨x, hx⟩ := el_some hlt
      have HX := Lib.hid hx
      obtain ⟨g, o, us, rfl, hg, hu, hr⟩ := (H.out.below (Sl_ok R_Label_ok) hB).at_ hx
      obtain ⟨g', o', vs, rfl, hg', hu', hr'⟩ := (H'.out.below (Sl_ok R_Label_ok) hB).at_ hx
      obtain ⟨a1, c1, rfl, k_x⟩ := hr
      obtain ⟨a1', c1', rfl, k'_x⟩ := hr'
      have e0 : wr.cell? ⟨g, o + k, none⟩ = some (.slice a1 x.length c1) := by simpa [sizeq_LabelSS, Nat.add_assoc] using hu 0 _ rfl
      have d0 : wr.cell? ⟨g', o' + k, none⟩ = some (.slice a1' x.length c1') := by simpa [sizeq_LabelSS, Nat.add_assoc] using hu' 0 _ rfl
      have hi0 : (0 : Int) ≤ (k : Int) := Int.natCast_nonneg _
      have hi1 : (k : Int) < (L.length : Int) := by omega
      have hgl : g < wr.heap.size := Nat.lt_of_lt_of_le hg hsz
      have hgl' : g' < wr.heap.size := Nat.lt_of_lt_of_le hg' hsz
      have K := Lib.hid (k_x.more R_Label_ok hsz)
      have K' := Lib.hid (k'_x.more R_Label_ok hsz)
      clear hB hx hu hu' k_x k'_x
      go_wp2_with fail
      refine wp_region_held_drew (S := (fun W => W.cell? ⟨g, o + k, none⟩ = some (.slice a1 x.length c1) ∧ W.cell? ⟨g', o' + k, none⟩ = some (.slice a1' x.length c1') ∧ wr.heap.size ≤ W.heap.size ∧ Below wr.heap.size wr W)) (by kernel_rfl) (⟨e0, d0, Nat.le_refl _, (Below.refl _ _).drew⟩) (fun hHeld => ?_)
      refine wpAnyH_take (i := 0) (v := ?hv10) rfl (by kernel_rfl) (by kernel_rfl) (by kernel_rfl) (fun _ _ _ h => h) (Or.inl ⟨by kernel_rfl, ?hy10⟩) hHeld ?hr10
      case hy10 => (intro w hSw; (try dsimp only at hSw); go_simp; try with_reducible rfl)
      refine wpAnyH_take (i := 1) (v := ?hv11) rfl (by kernel_rfl) (by kernel_rfl) (by kernel_rfl) (fun _ _ _ h => h) (Or.inl ⟨by kernel_rfl, ?hy11⟩) hHeld ?hr11
      case hy11 => (intro w hSw; (try dsimp only at hSw); go_simp; try with_reducible rfl)
      refine wpAnyH_take (i := 2) (v := ?hv12) rfl (by kernel_rfl) (by kernel_rfl) (by kernel_rfl) (fun _ _ _ h => h) (Or.inl ⟨by kernel_rfl, ?hy12⟩) hHeld ?hr12
      case hy12 => (intro w hSw; (try dsimp only at hSw); go_simp; try with_reducible rfl)
      refine wpAnyH_take (i := 3) (v := ?hv13) rfl (by kernel_rfl) (by kernel_rfl) (by kernel_rfl) (fun _ _ _ h => h) (Or.inl ⟨by kernel_rfl, ?hy13⟩) hHeld ?hr13
      case hy13 => (intro w hSw; (try dsimp only at hSw); go_simp; try with_reducible rfl)
      refine wpAnyH_take (i := 4) (v := ?hv14) rfl (by kernel_rfl) (by kernel_rfl) (by kernel_rfl) (fun _ _ _ h => h) (Or.inl ⟨by kernel_rfl, ?hy14⟩) hHeld ?hr14
      case hy14 => (intro w hSw; (try dsimp only at hSw); go_simp; try with_reducible rfl)
      refine wpAnyH_take (i := 5) (v := ?hv15) rfl (by kernel_rfl) (by kernel_rfl) (by kernel_rfl) (fun _ _ _ h => h) (Or.inl ⟨by kernel_rfl, ?hy15⟩) hHeld ?hr15
      case hy15 => (intro w hSw; (try dsimp only at hSw); go_simp; try with_reducible rfl)
      refine wpAnyH_take (i := 6) (v := ?hv16) rfl (by kernel_rfl) (by kernel_rfl) (by kernel_rfl) (fun _ _ _ h => h) (Or.inl ⟨by kernel_rfl, ?hy16⟩) hHeld ?hr16
      case hy16 => (intro w hSw; (try dsimp only at hSw); go_simp; try with_reducible rfl)
      refine wpAnyH_take (i := 7) (v := ?hv17) rfl (by kernel_rfl) (by kernel_rfl) (by kernel_rfl) (fun _ _ _ h => h) (Or.inl ⟨by kernel_rfl, ?hy17⟩) hHeld ?hr17
      case hy17 => (intro w hSw; (try dsimp only at hSw); go_simp; try with_reducible rfl)
      refine wpAnyH_ready (rs := [8]) (by kernel_rfl) (by simp) ?_
      refine AllReadyH.cons rfl (fun KK hK => ?_) AllReadyH.nil
      go_simp
      refine (eq_LabelS ((K.out.below R_Label_ok (by exact hHeld.2.2.2)).more R_Label_ok (by exact hHeld.2.2.1)) ((K'.out.below R_Label_ok (by exact hHeld.2.2.2)).more R_Label_ok (by exact hHeld.2.2.1))).mono ?_
      intro e w1 h
      obtain ⟨rfl, hb⟩ := isB_elim h
      refine hK.out _ _ (⟨(hb.cell (p := ⟨g, o + k, none⟩) (Nat.lt_of_lt_of_le hgl hHeld.2.2.1)).trans hHeld.1, (hb.cell (p := ⟨g', o' + k, none⟩) (Nat.lt_of_lt_of_le hgl' hHeld.2.2.1)).trans hHeld.2.1, Nat.le_trans hHeld.2.2.1 hb.size, hHeld.2.2.2.trans (hb.mono hHeld.2.2.1)⟩) (fun hHeld => ?_)
      clear hK KK h
      refine wpAnyH_take (i := 9) (v := ?hv18) rfl (by kernel_rfl) (by kernel_rfl) (by kernel_rfl) (fun _ _ _ h => h) (Or.inl ⟨by kernel_rfl, ?hy18⟩) hHeld ?hr18
      case hy18 => (intro w hSw; (try dsimp only at hSw); go_simp; try with_reducible rfl)
      refine rd0 ?_
      have HB2 := Lib.hid (HB.out.trans (hHeld.2.2.2.mono hsz))
      clear hHeld
      go_wp2
      go_roundw
      case rel => exact ⟨k + 1, by omega, by go_num, HB2.out⟩
      case measure => simp [intOf]; omega
    · clear hB
      go_wp2
      go_ret
      exact ⟨rfl, HB.out⟩
theorem flat_LabelS (L : List (D_Label)) : (Sl R_Label).sz L = L.length := by
  have : sumL (R_Label).sz L = 0 := sumL_zero (fun _ => rfl) L
  simp only [Sl, this, Nat.add_zero]
set_option maxRecDepth 100000 in
theorem sz_LabelS {L : List (D_Label)} {a : Option Addr} {cap : Nat} {W : World} {l : Int} (h0 : 0 ≤ l) (h1 : l ≤ 1048576) (h : RdSl R_Label W W.heap.size L a cap) : Calls Tryz.prog 71 #[.slice a L.length cap, .int .i64 l] W (SzC l ((Sl R_Label).sz L) W) := by
  have hn : L.length ≤ 9223372036854775807 := by have h1 := h.1; have h2 := h.2.1; unfold maxLen at h2; omega
  rw [flat_LabelS]
  clear h
  by_cases hf : (L.length : Int) ≤ l
  · have HR := Lib.hid (szR_yes hf)
    go_enter Tryz.func71, Tryz.ntmps71
    go_wp2
    go_ret
    exact ⟨by first | (rw [HR.out]; done) | (rw [HR.out]; rfl), Below.refl _ _⟩
  · have HR := Lib.hid (szR_no hf)
    go_enter Tryz.func71, Tryz.ntmps71
    go_wp2
    go_ret
    exact ⟨by first | (rw [HR.out]; done) | (rw [HR.out]; rfl), Below.refl _ _⟩
theorem sizz_LabelSS : ((Sl R_Label)).size = 1 := rfl
theorem szd_LabelSS (L : List (List (D_Label))) : (Sl (Sl R_Label)).sz L = L.length + sumL ((Sl R_Label)).sz L := rfl
set_option maxRecDepth 100000 in
set_option maxHeartbeats 1600000 in
theorem sz_LabelSS {L : List (List (D_Label))} {a : Option Addr} {cap : Nat} {W : World} {l : Int} (h0 : 0 ≤ l) (h1 : l ≤ 1048576) (h : RdSl (Sl R_Label) W W.heap.size L a cap) : Calls Tryz.prog 30 #[.slice a L.length cap, .int .i64 l] W (SzC l ((Sl (Sl R_Label)).sz L) W) := by
  have hn : L.length ≤ 9223372036854775807 := by have h1 := h.1; have h2 := h.2.1; unfold maxLen at h2; omega
  have H := Lib.hid h
  have HD := Lib.hid (szd_LabelSS L)
  clear h
  by_cases hlen : (L.length : Int) ≤ l
  · go_enter Tryz.func30, Tryz.ntmps30
    go_wp2
    go_loopw [5, 1] (fun i q wr => ∃ k : Nat, k ≤ L.length ∧ i = .int .i64 k ∧ (L.length : Int) + (sumL ((Sl R_Label)).sz (L.take k) : Nat) ≤ l ∧ q = .int .i64 (l - L.length - (sumL ((Sl R_Label)).sz (L.take k) : Nat)) ∧ Below W.heap.size W wr) (fun i _ _ => L.length - (intOf i).toNat)
    case atStart => exact ⟨0, Nat.zero_le _, rfl, by simpa [sumL] using hlen, by simp [sumL], Below.refl _ _⟩
    case round =>
      obtain ⟨k, hk, rfl, hfit, rfl, hB⟩ := hrel
      have HB := Lib.hid hB
      have hsz := hB.size
      have hle := sumL_take_le ((Sl R_Label)).sz L k
      by_cases hlt : k < L.length
      · obtain ⟨x, hx⟩ := el_some hlt
        have HS := Lib.hid (sumL_take ((Sl R_Label)).sz hx)
        have hle2 := sumL_take_le ((Sl R_Label)).sz L (k + 1)
        obtain ⟨g, o, us, rfl, hg, hu, hr⟩ := (H.out.below (Sl_ok R_Label_ok) hB).at_ hx
        obtain ⟨a1, c1, rfl, k_x⟩ := hr
        have e0 : wr.cell? ⟨g, o + k, none⟩ = some (.slice a1 x.length c1) := by simpa [sizz_LabelSS, Nat.add_assoc] using hu 0 _ rfl
        have K_x := Lib.hid (k_x.more R_Label_ok hsz)
        obtain ⟨q, hq⟩ : ∃ q, q = sumL ((Sl R_Label)).sz (L.take k) := ⟨_, rfl⟩
        obtain ⟨p, hp⟩ : ∃ p, p = ((Sl R_Label)).sz x := ⟨_, rfl⟩
        rw [← hq] at hfit hle HS
        rw [← hp] at HS
        have HQ := Lib.hid hq
        have HP := Lib.hid hp
        have hi0 : (0 : Int) ≤ (k : Int) := Int.natCast_nonneg _
        have hi1 : (k : Int) < (L.length : Int) := by omega
        have hgl : g < wr.heap.size := Nat.lt_of_lt_of_le hg hsz
        have hle3 : q + p ≤ sumL ((Sl R_Label)).sz L := by rw [← HS.out]; exact hle2
        rw [← hq]
        clear hB hx hu k_x hq hp hle2
        go_wp2_with fail
        refine (sz_LabelS (by omega) (by omega) K_x.out).mono ?_
        intro e w1 h
        obtain ⟨rfl, hb⟩ := szC_elim h
        rw [← HP.out]
        have HB2 := Lib.hid (HB.out.trans (hb.mono hsz))
        clear h hb
        by_cases hf : (p : Int) ≤ l - L.length - (q : Nat)
        · rw [szR_yes hf]
          have hpos : (0 : Int) ≤ l - L.length - (q : Nat) - (p : Nat) := by omega
          go_wp2
          go_roundw
          case rel => exact ⟨k + 1, by omega, by go_num, by rw [HS.out]; omega, by rw [HS.out]; congr 1; omega, HB2.out⟩
          case measure => simp [intOf]; omega
        · rw [szR_no hf]
          have HR := Lib.hid (szR_no (l := l) (s := (Sl (Sl R_Label)).sz L) (by rw [HD.out]; omega))
          go_wp2
          go_ret
          exact ⟨by first | (rw [HR.out]; done) | (rw [HR.out]; rfl), HB2.out⟩
      · obtain rfl : k = L.length := by omega
        have HR := Lib.hid (szR_yes (l := l) (s := (Sl (Sl R_Label)).sz L) (by rw [HD.out]; rw [List.take_length] at hfit; omega))
        have HT := Lib.hid (show L.take L.length = L from List.take_length)
        clear hB
        go_wp2
        go_ret
        exact ⟨by rw [HR.out, HD.out, ← HT.out]; first | rfl | (simp; done) | (simp; omega), HB.out⟩
  · have HR := Lib.hid (szR_no (l := l) (s := (Sl (Sl R_Label)).sz L) (by rw [HD.out]; omega))
    go_enter Tryz.func30, Tryz.ntmps30
    go_wp2
    go_ret
    exact ⟨by first | (rw [HR.out]; done) | (rw [HR.out]; rfl), Below.refl _ _⟩
end Go.Proofs.YtlgflddljhldhaaGreat.RepC
end
