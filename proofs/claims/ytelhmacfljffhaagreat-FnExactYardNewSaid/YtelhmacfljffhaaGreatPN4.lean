/- Of this claim's texts the part 4: ClrI CfL3 CfL4 CfI CfV NFlat NARow SpPairs SqRight NdV NdC NdN YbF YbG YbH CfI2. -/
import Derived.Lib.AppendZeros
import Derived.Laws.MakeOwn
import Derived.Laws.Entries
import Derived.Test.YtelhmacfljffhaaGreatPN3
section
namespace Go.Proofs.YtelhmacfljffhaaGreat.RepC
open Go.RowKit RowC ValC SpanC KeptC
set_option linter.unusedVariables false
set_option linter.unusedSimpArgs false
theorem ri_at (l s : Int) {b : Bool} (hb : LabC.rB l s = b) (w : World) : Calls Tryz.prog 96 #[.agg #[.int .i64 l, .int .i64 s]] w fun e w' => e = .returned (.bool b) ∧ Below w.heap.size w w' := by
  subst hb; exact LabC.ri_w l s w
theorem bi_at (l s m t : Int) {b : Bool} (hb : LabC.belowB l s m t = b) (w : World) : Calls Tryz.prog 144 #[.agg #[.int .i64 l, .int .i64 s], .agg #[.int .i64 m, .int .i64 t]] w fun e w' => e = .returned (.bool b) ∧ Below w.heap.size w w' := by
  subst hb; exact LabC.below_impl l s m t w
def IxR (p : Prop) (w : World) (e : Ending) (w' : World) : Prop := ∃ i : Int, e = .returned (.int .i64 i) ∧ (0 ≤ i ↔ p) ∧ Below w.heap.size w w'
theorem ixR_elim {p : Prop} {w : World} {e : Ending} {w' : World} (h : IxR p w e w') : ∃ i : Int, e = .returned (.int .i64 i) ∧ (0 ≤ i ↔ p) ∧ Below w.heap.size w w' := h
set_option maxRecDepth 100000 in
set_option maxHeartbeats 3200000 in
theorem index_lab {L : List D_Label} {a : Option Addr} {cap : Nat} {l s : Int} {W : World} (h : RdSl R_Label W W.heap.size L a cap) :
    Calls Tryz.prog 162 #[.slice a L.length cap, .agg #[.int .i64 l, .int .i64 s]] W (IxR ((l, s) ∈ L) W) := by
  have hn : L.length ≤ 9223372036854775807 := by have h1 := h.1; have h2 := h.2.1; unfold maxLen at h2; omega
  have H := Lib.hid h
  clear h
  have HB0 := Lib.hid (show Below W.heap.size W (W.alloc (.cells #[.int .i64 l, .int .i64 s] 67)) from (Below.refl _ _).alloc (Nat.le_refl _) _)
  have HP0 := Lib.hid (Blk.new W 67 #[.int .i64 l, .int .i64 s])
  go_enter Tryz.func162, Tryz.ntmps162
  go_wp2
  go_loopw [8] (fun i wr => ∃ k : Nat, k ≤ L.length ∧ i = .int .i64 k ∧ Hid ((l, s) ∉ L.take k) ∧ Below W.heap.size W wr ∧ Hid (Blk wr W.heap.size 67 #[.int .i64 l, .int .i64 s])) (fun i _ => L.length - (intOf i).toNat)
  case atStart => exact ⟨0, Nat.zero_le _, rfl, Lib.hid (by simp), HB0.out, HP0⟩
  case round =>
    obtain ⟨k, hk, rfl, HA, hB, HP⟩ := hrel
    have HB := Lib.hid hB
    have hsz := hB.size
    by_cases hlt : k < L.length
    · obtain ⟨⟨x0, x1⟩, hx⟩ := el_some hlt
      have HX := Lib.hid hx
      obtain ⟨g, o, us, rfl, hg, hu, hr⟩ := (H.out.below R_Label_ok hB).at_ hx
      obtain rfl := rd_Label hr
      have e0 : wr.cell? ⟨g, o + k * 2, none⟩ = some (.int .i64 x0) := by simpa [size_Lab, Nat.add_assoc] using hu 0 _ rfl
      have e1 : wr.cell? ⟨g, o + k * 2 + 1, none⟩ = some (.int .i64 x1) := by simpa [size_Lab, Nat.add_assoc] using hu 1 _ rfl
      have hgl : g < wr.heap.size := Nat.lt_of_lt_of_le hg hsz
      have hi0 : (0 : Int) ≤ (k : Int) := Int.natCast_nonneg _
      have hi1 : (k : Int) < (L.length : Int) := by omega
      have hq0 := HP.out.at_ 0 rfl
      have hq1 := HP.out.at_ 1 rfl
      have hpl := HP.out.lt
      clear hB hx hu hr
      cases c1 : (l == x0) with
      | false =>
        have HC := Lib.hid (show (l, s) ∉ L.take (k + 1) from by rw [List.take_add_one, HX.out]; simp at c1 ⊢; exact ⟨HA.out, fun e => absurd e c1⟩)
        go_wp2_with fail
        refine wp_region_held_drew (S := (fun V => Below (wr).heap.size (wr) V)) (by kernel_rfl) ((Below.refl _ _).drew) (fun hHeld => ?_)
        refine tk 0 hHeld ?_ (hy := fun w hSw => by (try dsimp only at hSw); have k0 := (hSw.cell (p := ⟨W.heap.size, 0, none⟩) hpl).trans hq0; have k1 := (hSw.cell (p := ⟨W.heap.size, 1, none⟩) hpl).trans hq1; clear hSw; go_simp; try with_reducible rfl)
        refine tk 1 hHeld ?_
        refine tk 2 hHeld ?_
        refine tk 3 hHeld ?_
        refine tk 4 hHeld ?_ (hy := fun w hSw => by (try dsimp only at hSw); have k0 := (hSw.cell (p := ⟨g, o + k * 2, none⟩) hgl).trans e0; have k1 := (hSw.cell (p := ⟨g, o + k * 2 + 1, none⟩) hgl).trans e1; clear hSw; go_simp; try with_reducible rfl)
        refine tk 5 hHeld ?_
        refine rd0 ?_
        have HF := Lib.hid hHeld
        clear hHeld
        have HB3 := Lib.hid (HB.out.trans (HF.out.mono hsz))
        have HP3 := Lib.hid (HP.out.call HF.out)
        clear HF
        go_wp2
        go_roundw
        case rel => exact ⟨k + 1, by omega, by go_num, HC, HB3.out, HP3⟩
        case measure => simp [intOf]; omega
      | true =>
        cases c2 : (s == x1) with
        | false =>
          have HC := Lib.hid (show (l, s) ∉ L.take (k + 1) from by rw [List.take_add_one, HX.out]; simp at c2 ⊢; exact ⟨HA.out, fun _ e => absurd e c2⟩)
          go_wp2_with fail
          refine wp_region_held_drew (S := (fun V => Below (wr).heap.size (wr) V)) (by kernel_rfl) ((Below.refl _ _).drew) (fun hHeld => ?_)
          refine tk 0 hHeld ?_ (hy := fun w hSw => by (try dsimp only at hSw); have k0 := (hSw.cell (p := ⟨W.heap.size, 0, none⟩) hpl).trans hq0; have k1 := (hSw.cell (p := ⟨W.heap.size, 1, none⟩) hpl).trans hq1; clear hSw; go_simp; try with_reducible rfl)
          refine tk 1 hHeld ?_
          refine tk 2 hHeld ?_
          refine tk 3 hHeld ?_
          refine tk 4 hHeld ?_ (hy := fun w hSw => by (try dsimp only at hSw); have k0 := (hSw.cell (p := ⟨g, o + k * 2, none⟩) hgl).trans e0; have k1 := (hSw.cell (p := ⟨g, o + k * 2 + 1, none⟩) hgl).trans e1; clear hSw; go_simp; try with_reducible rfl)
          refine tk 5 hHeld ?_
          refine rd0 ?_
          have HF := Lib.hid hHeld
          clear hHeld
          have HB3 := Lib.hid (HB.out.trans (HF.out.mono hsz))
          have HP3 := Lib.hid (HP.out.call HF.out)
          clear HF
          go_wp2
          go_roundw
          case rel => exact ⟨k + 1, by omega, by go_num, HC, HB3.out, HP3⟩
          case measure => simp [intOf]; omega
        | true =>
          have HY := Lib.hid (show (l, s) ∈ L from by rw [beq_iff_eq] at c1 c2; subst c1 c2; exact List.mem_of_getElem? HX.out)
          go_wp2_with fail
          refine wp_region_held_drew (S := (fun V => Below (wr).heap.size (wr) V)) (by kernel_rfl) ((Below.refl _ _).drew) (fun hHeld => ?_)
          refine tk 0 hHeld ?_ (hy := fun w hSw => by (try dsimp only at hSw); have k0 := (hSw.cell (p := ⟨W.heap.size, 0, none⟩) hpl).trans hq0; have k1 := (hSw.cell (p := ⟨W.heap.size, 1, none⟩) hpl).trans hq1; clear hSw; go_simp; try with_reducible rfl)
          refine tk 1 hHeld ?_
          refine tk 2 hHeld ?_
          refine tk 3 hHeld ?_
          refine tk 4 hHeld ?_ (hy := fun w hSw => by (try dsimp only at hSw); have k0 := (hSw.cell (p := ⟨g, o + k * 2, none⟩) hgl).trans e0; have k1 := (hSw.cell (p := ⟨g, o + k * 2 + 1, none⟩) hgl).trans e1; clear hSw; go_simp; try with_reducible rfl)
          refine tk 5 hHeld ?_
          refine rd0 ?_
          have HF := Lib.hid hHeld
          clear hHeld
          have HB3 := Lib.hid (HB.out.trans (HF.out.mono hsz))
          clear HF
          go_wp2
          go_ret
          exact ⟨_, rfl, ⟨fun _ => HY.out, fun _ => hi0⟩, HB3.out⟩
    · have HN := Lib.hid (show (l, s) ∉ L from by have h := HA.out; rw [List.take_of_length_le (by omega)] at h; exact h)
      have hd : decide ((k : Int) < (L.length : Int)) = false := decide_eq_false (by omega)
      clear hB
      go_wp2
      go_ret
      exact ⟨_, rfl, ⟨fun h => by omega, fun h => absurd h HN.out⟩, HB.out⟩
set_option maxRecDepth 100000 in
set_option maxHeartbeats 1600000 in
theorem contains_lab {L : List D_Label} {a : Option Addr} {cap : Nat} {l s : Int} {W : World} (h : RdSl R_Label W W.heap.size L a cap) :
    Calls Tryz.prog 106 #[.slice a L.length cap, .agg #[.int .i64 l, .int .i64 s]] W (ResB ((l, s) ∈ L) W) := by
  have HB0 := Lib.hid (show Below W.heap.size W (W.alloc (.cells #[.int .i64 l, .int .i64 s] 67)) from (Below.refl _ _).alloc (Nat.le_refl _) _)
  have H := Lib.hid (rd_mv R_Label_ok h HB0.out)
  have HZ := HB0.out.size
  clear h
  go_enter Tryz.func106, Tryz.ntmps106
  go_wp2_with fail
  refine (index_lab H.out).mono ?_
  intro e w1 h
  obtain ⟨i, rfl, hi, hb⟩ := ixR_elim h
  have HB1 := Lib.hid (HB0.out.trans (hb.mono HZ))
  have HI := Lib.hid hi
  clear h hi hb
  by_cases h0 : 0 ≤ i
  · have hd : decide (0 ≤ i) = true := decide_eq_true h0
    have HY := Lib.hid (HI.out.1 h0)
    clear h0
    go_wp2
    go_ret
    exact resB_yes HY.out HB1.out
  · have hd : decide (0 ≤ i) = false := decide_eq_false h0
    have HY := Lib.hid (show (l, s) ∉ L from fun h => h0 (HI.out.2 h))
    clear h0
    go_wp2
    go_ret
    exact resB_no HY.out HB1.out
set_option maxRecDepth 100000 in
set_option maxHeartbeats 3200000 in
theorem chain_im {L : List D_Label} {a : Option Addr} {cap : Nat} {W : World} (h : RdSl R_Label W W.heap.size L a cap) :
    Calls Tryz.prog 139 #[.slice a L.length cap] W (ResB (ChainR L) W) := by
  have H := Lib.hid h
  clear h
  by_cases n1 : 1 ≤ L.length
  rotate_left
  · have hd : decide ((L.length : Int) < 1) = true := decide_eq_true (by omega)
    have HN := Lib.hid (show ¬ ChainR L from fun h => n1 h.1)
    go_enter Tryz.func139, Tryz.ntmps139
    go_wp2
    go_ret
    exact resB_no HN.out (Below.refl _ _)
  have hd1 : decide ((L.length : Int) < 1) = false := decide_eq_false (by omega)
  by_cases n4 : L.length ≤ 4
  rotate_left
  · have hd : decide (4 < (L.length : Int)) = true := decide_eq_true (by omega)
    have HN := Lib.hid (show ¬ ChainR L from fun h => n4 h.2.1)
    go_enter Tryz.func139, Tryz.ntmps139
    go_wp2
    go_ret
    exact resB_no HN.out (Below.refl _ _)
  have hd4 : decide (4 < (L.length : Int)) = false := decide_eq_false (by omega)
  obtain ⟨⟨x0, x1⟩, hx⟩ := el_some (L := L) (k := 0) (by omega)
  have HX := Lib.hid hx
  obtain ⟨g, o, us, rfl, hg, hu, hr⟩ := H.out.at_ hx
  obtain rfl := rd_Label hr
  have e0 : W.cell? ⟨g, o, none⟩ = some (.int .i64 x0) := by simpa [size_Lab, Nat.add_assoc] using hu 0 _ rfl
  have e1 : W.cell? ⟨g, o + 1, none⟩ = some (.int .i64 x1) := by simpa [size_Lab, Nat.add_assoc] using hu 1 _ rfl
  have h0n : (0 : Int) < (L.length : Int) := by omega
  have HG := Lib.hid hg
  clear hx hu hr
  cases hr : LabC.rB x0 x1 with
  | false =>
    have HNo := Lib.hid (show ¬ ChainR L from fun h => by have := (h.2.2 0 (by omega) _ HX.out).1; rw [hr] at this; cases this)
    have HR := Lib.hid hr
    clear hr
    go_enter Tryz.func139, Tryz.ntmps139
    go_wp2_with fail
    refine (ri_at x0 x1 HR.out _).mono ?_
    rintro e w1 ⟨rfl, hb⟩
    have HB1 := Lib.hid hb
    clear hb
    go_wp2
    go_ret
    exact resB_no HNo.out HB1.out
  | true =>
    have HR := Lib.hid hr
    clear hr
    have HOK0 := Lib.hid (show ∀ j, j < 1 → okC L j from fun j hj => by obtain rfl : j = 0 := (by omega); exact okC_first HX.out HR.out)
    go_enter Tryz.func139, Tryz.ntmps139
    go_wp2_with fail
    refine (ri_at x0 x1 HR.out _).mono ?_
    rintro e w1 ⟨rfl, hb⟩
    have HB1 := Lib.hid hb
    clear hb e0 e1
    go_wp2
    go_loopw [3] (fun i wr => ∃ k : Nat, 1 ≤ k ∧ k ≤ L.length ∧ i = .int .i64 k ∧ Hid (∀ j, j < k → okC L j) ∧ Below W.heap.size W wr) (fun i _ => L.length - (intOf i).toNat)
    case atStart => exact ⟨1, Nat.le_refl _, n1, rfl, HOK0, HB1.out⟩
    case round =>
      obtain ⟨k, hk1, hk, rfl, HA, hB⟩ := hrel
      have HB := Lib.hid hB
      have hsz := hB.size
      by_cases hlt : k < L.length
      · obtain ⟨j, rfl⟩ : ∃ j, k = j + 1 := ⟨k - 1, by omega⟩
        obtain ⟨⟨x0, x1⟩, hx⟩ := el_some hlt
        have HX := Lib.hid hx
        obtain ⟨g1, o1, us, he, hg1, hu, hr⟩ := (H.out.below R_Label_ok HB.out).at_ hx
        cases he
        obtain rfl := rd_Label hr
        have e0 : wr.cell? ⟨g, o + (j + 1) * 2, none⟩ = some (.int .i64 x0) := by simpa [size_Lab, Nat.add_assoc] using hu 0 _ rfl
        have e1 : wr.cell? ⟨g, o + (j + 1) * 2 + 1, none⟩ = some (.int .i64 x1) := by simpa [size_Lab, Nat.add_assoc] using hu 1 _ rfl
        clear hu hr
        obtain ⟨⟨y0, y1⟩, hy⟩ := el_some (L := L) (k := j) (by omega)
        have HY := Lib.hid hy
        obtain ⟨g2, o2, us, he, hg2, hu, hr⟩ := (H.out.below R_Label_ok HB.out).at_ hy
        cases he
        obtain rfl := rd_Label hr
        have d0 : wr.cell? ⟨g, o + j * 2, none⟩ = some (.int .i64 y0) := by simpa [size_Lab, Nat.add_assoc] using hu 0 _ rfl
        have d1 : wr.cell? ⟨g, o + j * 2 + 1, none⟩ = some (.int .i64 y1) := by simpa [size_Lab, Nat.add_assoc] using hu 1 _ rfl
        have hgl : g < wr.heap.size := Nat.lt_of_lt_of_le hg hsz
        have hj0 : (0 : Int) ≤ (j : Int) := Int.natCast_nonneg _
        have hj1 : (j : Int) < (L.length : Int) := by omega
        have hi0p : (0 : Int) ≤ (j : Int) + 1 := by omega
        have hi1p : (j : Int) + 1 < (L.length : Int) := by omega
        have hjw : IntKind.i64.wrap ((j : Int) + 1 - 1) = (j : Int) := by rw [show (j : Int) + 1 - 1 = (j : Int) by omega]; exact IntWalk.i64_in _ (by omega)
        have hjw2 : IntKind.i64.wrap (j : Int) = (j : Int) := IntWalk.i64_in _ (by omega)
        have hlim : L.length ≤ 4 := n4
        have hry : LabC.rB y0 y1 = true := (HA.out j (Nat.lt_succ_self _) _ HY.out).1
        have HRY := Lib.hid hry
        clear hB hx hy hu hr hg1 hg2 hry
        cases hbb : LabC.belowB y0 y1 x0 x1 with
        | false =>
          have HNo := Lib.hid (show ¬ ChainR L from fun h => by
            have h2 := h.2.2 (j + 1) hlt _ HX.out
            have h3 := (h2.2 (Nat.succ_pos _) (y0, y1) HY.out).1
            rw [LabC.below_yes HRY.out h2.1, h3] at hbb
            cases hbb)
          have HBB := Lib.hid hbb
          clear hbb
          cases c1 : (x0 == y0) with
          | false =>
            go_wp2_with fail
            refine wp_region_held_drew (S := (fun V => Below (wr).heap.size (wr) V)) (by kernel_rfl) ((Below.refl _ _).drew) (fun hHeld => ?_)
            refine tk 0 hHeld ?_
            refine tk 1 hHeld ?_
            refine tk 2 hHeld ?_
            refine tk 3 hHeld ?_ (hy := fun w hSw => by (try dsimp only at hSw); have k0 := (hSw.cell (p := ⟨g, o + (j + 1) * 2, none⟩) hgl).trans e0; have k1 := (hSw.cell (p := ⟨g, o + (j + 1) * 2 + 1, none⟩) hgl).trans e1; clear hSw; go_simp; try with_reducible rfl)
            refine tk 4 hHeld ?_
            refine tk 5 hHeld ?_
            refine tk 6 hHeld ?_
            refine tk 7 hHeld ?_
            refine tk 8 hHeld ?_ (hy := fun w hSw => by (try dsimp only at hSw); have k0 := (hSw.cell (p := ⟨g, o + j * 2, none⟩) hgl).trans d0; have k1 := (hSw.cell (p := ⟨g, o + j * 2 + 1, none⟩) hgl).trans d1; clear hSw; go_simp; try with_reducible rfl)
            refine tk 9 hHeld ?_
            refine tk 10 hHeld ?_
            refine tk 11 hHeld ?_
            refine tk 12 hHeld ?_
            refine tk 13 hHeld ?_
            refine tk 14 hHeld ?_
            refine tk 15 hHeld ?_ (hy := fun w hSw => by (try dsimp only at hSw); have k0 := (hSw.cell (p := ⟨g, o + j * 2, none⟩) hgl).trans d0; have k1 := (hSw.cell (p := ⟨g, o + j * 2 + 1, none⟩) hgl).trans d1; clear hSw; go_simp; try with_reducible rfl)
            refine tk 16 hHeld ?_
            refine tk 17 hHeld ?_
            refine tk 18 hHeld ?_
            refine tk 19 hHeld ?_ (hy := fun w hSw => by (try dsimp only at hSw); have k0 := (hSw.cell (p := ⟨g, o + (j + 1) * 2, none⟩) hgl).trans e0; have k1 := (hSw.cell (p := ⟨g, o + (j + 1) * 2 + 1, none⟩) hgl).trans e1; clear hSw; go_simp; try with_reducible rfl)
            refine rd1 20 (fun K hK => ?_)
            go_simp
            go_at_call 144
            refine (bi_at y0 y1 x0 x1 HBB.out _).mono ?_
            rintro e w9 ⟨rfl, hb⟩
            refine hK.out _ _ (hHeld.trans (hb.mono hHeld.size)) (fun hHeld => ?_)
            clear hK K hb
            refine tk 21 hHeld ?_
            refine tk 22 hHeld ?_
            refine rd0 ?_
            have HF := Lib.hid hHeld
            clear hHeld
            have HB3 := Lib.hid (HB.out.trans (HF.out.mono hsz))
            clear HF
            go_wp2
            go_ret
            exact resB_no HNo.out HB3.out
          | true =>
            cases c2 : (x1 == y1) with
            | false =>
              go_wp2_with fail
              refine wp_region_held_drew (S := (fun V => Below (wr).heap.size (wr) V)) (by kernel_rfl) ((Below.refl _ _).drew) (fun hHeld => ?_)
              refine tk 0 hHeld ?_
              refine tk 1 hHeld ?_
              refine tk 2 hHeld ?_
              refine tk 3 hHeld ?_ (hy := fun w hSw => by (try dsimp only at hSw); have k0 := (hSw.cell (p := ⟨g, o + (j + 1) * 2, none⟩) hgl).trans e0; have k1 := (hSw.cell (p := ⟨g, o + (j + 1) * 2 + 1, none⟩) hgl).trans e1; clear hSw; go_simp; try with_reducible rfl)
              refine tk 4 hHeld ?_
              refine tk 5 hHeld ?_
              refine tk 6 hHeld ?_
              refine tk 7 hHeld ?_
              refine tk 8 hHeld ?_ (hy := fun w hSw => by (try dsimp only at hSw); have k0 := (hSw.cell (p := ⟨g, o + j * 2, none⟩) hgl).trans d0; have k1 := (hSw.cell (p := ⟨g, o + j * 2 + 1, none⟩) hgl).trans d1; clear hSw; go_simp; try with_reducible rfl)
              refine tk 9 hHeld ?_
              refine tk 10 hHeld ?_
              refine tk 11 hHeld ?_
              refine tk 12 hHeld ?_
              refine tk 13 hHeld ?_
              refine tk 14 hHeld ?_
              refine tk 15 hHeld ?_ (hy := fun w hSw => by (try dsimp only at hSw); have k0 := (hSw.cell (p := ⟨g, o + j * 2, none⟩) hgl).trans d0; have k1 := (hSw.cell (p := ⟨g, o + j * 2 + 1, none⟩) hgl).trans d1; clear hSw; go_simp; try with_reducible rfl)
              refine tk 16 hHeld ?_
              refine tk 17 hHeld ?_
              refine tk 18 hHeld ?_
              refine tk 19 hHeld ?_ (hy := fun w hSw => by (try dsimp only at hSw); have k0 := (hSw.cell (p := ⟨g, o + (j + 1) * 2, none⟩) hgl).trans e0; have k1 := (hSw.cell (p := ⟨g, o + (j + 1) * 2 + 1, none⟩) hgl).trans e1; clear hSw; go_simp; try with_reducible rfl)
              refine rd1 20 (fun K hK => ?_)
              go_simp
              go_at_call 144
              refine (bi_at y0 y1 x0 x1 HBB.out _).mono ?_
              rintro e w9 ⟨rfl, hb⟩
              refine hK.out _ _ (hHeld.trans (hb.mono hHeld.size)) (fun hHeld => ?_)
              clear hK K hb
              refine tk 21 hHeld ?_
              refine tk 22 hHeld ?_
              refine rd0 ?_
              have HF := Lib.hid hHeld
              clear hHeld
              have HB3 := Lib.hid (HB.out.trans (HF.out.mono hsz))
              clear HF
              go_wp2
              go_ret
              exact resB_no HNo.out HB3.out
            | true =>
              go_wp2_with fail
              refine wp_region_held_drew (S := (fun V => Below (wr).heap.size (wr) V)) (by kernel_rfl) ((Below.refl _ _).drew) (fun hHeld => ?_)
              refine tk 0 hHeld ?_
              refine tk 1 hHeld ?_
              refine tk 2 hHeld ?_
              refine tk 3 hHeld ?_ (hy := fun w hSw => by (try dsimp only at hSw); have k0 := (hSw.cell (p := ⟨g, o + (j + 1) * 2, none⟩) hgl).trans e0; have k1 := (hSw.cell (p := ⟨g, o + (j + 1) * 2 + 1, none⟩) hgl).trans e1; clear hSw; go_simp; try with_reducible rfl)
              refine tk 4 hHeld ?_
              refine tk 5 hHeld ?_
              refine tk 6 hHeld ?_
              refine tk 7 hHeld ?_
              refine tk 8 hHeld ?_ (hy := fun w hSw => by (try dsimp only at hSw); have k0 := (hSw.cell (p := ⟨g, o + j * 2, none⟩) hgl).trans d0; have k1 := (hSw.cell (p := ⟨g, o + j * 2 + 1, none⟩) hgl).trans d1; clear hSw; go_simp; try with_reducible rfl)
              refine tk 9 hHeld ?_
              refine tk 10 hHeld ?_
              refine tn 11 hHeld ?_
              refine tn 12 hHeld ?_
              refine tn 13 hHeld ?_
              refine tn 14 hHeld ?_
              refine tn 15 hHeld ?_
              refine tn 16 hHeld ?_
              refine tn 17 hHeld ?_
              refine tn 18 hHeld ?_
              refine tn 19 hHeld ?_
              refine tn 20 hHeld ?_
              refine tn 21 hHeld ?_
              refine tk 22 hHeld ?_
              refine rd0 ?_
              have HF := Lib.hid hHeld
              clear hHeld
              have HB3 := Lib.hid (HB.out.trans (HF.out.mono hsz))
              clear HF
              go_wp2
              go_ret
              exact resB_no HNo.out HB3.out
        | true =>
          have HBB := Lib.hid hbb
          have hb2 := hbb
          unfold LabC.belowB at hb2
          simp only [HRY.out, Bool.true_and, Bool.and_eq_true] at hb2
          have HB2 := Lib.hid hb2
          clear hbb hb2
          cases c1 : (x0 == y0) with
          | false =>
            have HOK := Lib.hid (all_step HA.out (okC_next HX.out HY.out HB2.out.1 HB2.out.2 (fun e => by have := congrArg Prod.fst e; simp at c1; exact c1 this.symm)))
            go_wp2_with fail
            refine wp_region_held_drew (S := (fun V => Below (wr).heap.size (wr) V)) (by kernel_rfl) ((Below.refl _ _).drew) (fun hHeld => ?_)
            refine tk 0 hHeld ?_
            refine tk 1 hHeld ?_
            refine tk 2 hHeld ?_
            refine tk 3 hHeld ?_ (hy := fun w hSw => by (try dsimp only at hSw); have k0 := (hSw.cell (p := ⟨g, o + (j + 1) * 2, none⟩) hgl).trans e0; have k1 := (hSw.cell (p := ⟨g, o + (j + 1) * 2 + 1, none⟩) hgl).trans e1; clear hSw; go_simp; try with_reducible rfl)
            refine tk 4 hHeld ?_
            refine tk 5 hHeld ?_
            refine tk 6 hHeld ?_
            refine tk 7 hHeld ?_
            refine tk 8 hHeld ?_ (hy := fun w hSw => by (try dsimp only at hSw); have k0 := (hSw.cell (p := ⟨g, o + j * 2, none⟩) hgl).trans d0; have k1 := (hSw.cell (p := ⟨g, o + j * 2 + 1, none⟩) hgl).trans d1; clear hSw; go_simp; try with_reducible rfl)
            refine tk 9 hHeld ?_
            refine tk 10 hHeld ?_
            refine tk 11 hHeld ?_
            refine tk 12 hHeld ?_
            refine tk 13 hHeld ?_
            refine tk 14 hHeld ?_
            refine tk 15 hHeld ?_ (hy := fun w hSw => by (try dsimp only at hSw); have k0 := (hSw.cell (p := ⟨g, o + j * 2, none⟩) hgl).trans d0; have k1 := (hSw.cell (p := ⟨g, o + j * 2 + 1, none⟩) hgl).trans d1; clear hSw; go_simp; try with_reducible rfl)
            refine tk 16 hHeld ?_
            refine tk 17 hHeld ?_
            refine tk 18 hHeld ?_
            refine tk 19 hHeld ?_ (hy := fun w hSw => by (try dsimp only at hSw); have k0 := (hSw.cell (p := ⟨g, o + (j + 1) * 2, none⟩) hgl).trans e0; have k1 := (hSw.cell (p := ⟨g, o + (j + 1) * 2 + 1, none⟩) hgl).trans e1; clear hSw; go_simp; try with_reducible rfl)
            refine rd1 20 (fun K hK => ?_)
            go_simp
            go_at_call 144
            refine (bi_at y0 y1 x0 x1 HBB.out _).mono ?_
            rintro e w9 ⟨rfl, hb⟩
            refine hK.out _ _ (hHeld.trans (hb.mono hHeld.size)) (fun hHeld => ?_)
            clear hK K hb
            refine tk 21 hHeld ?_
            refine tk 22 hHeld ?_
            refine rd0 ?_
            have HF := Lib.hid hHeld
            clear hHeld
            have HB3 := Lib.hid (HB.out.trans (HF.out.mono hsz))
            clear HF
            go_wp2
            go_roundw
            case rel => exact ⟨j + 2, by omega, by omega, by go_num, HOK, HB3.out⟩
            case measure => simp [intOf]; omega
          | true =>
            cases c2 : (x1 == y1) with
            | false =>
              have HOK := Lib.hid (all_step HA.out (okC_next HX.out HY.out HB2.out.1 HB2.out.2 (fun e => by have := congrArg Prod.snd e; simp at c2; exact c2 this.symm)))
              go_wp2_with fail
              refine wp_region_held_drew (S := (fun V => Below (wr).heap.size (wr) V)) (by kernel_rfl) ((Below.refl _ _).drew) (fun hHeld => ?_)
              refine tk 0 hHeld ?_
              refine tk 1 hHeld ?_
              refine tk 2 hHeld ?_
              refine tk 3 hHeld ?_ (hy := fun w hSw => by (try dsimp only at hSw); have k0 := (hSw.cell (p := ⟨g, o + (j + 1) * 2, none⟩) hgl).trans e0; have k1 := (hSw.cell (p := ⟨g, o + (j + 1) * 2 + 1, none⟩) hgl).trans e1; clear hSw; go_simp; try with_reducible rfl)
              refine tk 4 hHeld ?_
              refine tk 5 hHeld ?_
              refine tk 6 hHeld ?_
              refine tk 7 hHeld ?_
              refine tk 8 hHeld ?_ (hy := fun w hSw => by (try dsimp only at hSw); have k0 := (hSw.cell (p := ⟨g, o + j * 2, none⟩) hgl).trans d0; have k1 := (hSw.cell (p := ⟨g, o + j * 2 + 1, none⟩) hgl).trans d1; clear hSw; go_simp; try with_reducible rfl)
              refine tk 9 hHeld ?_
              refine tk 10 hHeld ?_
              refine tk 11 hHeld ?_
              refine tk 12 hHeld ?_
              refine tk 13 hHeld ?_
              refine tk 14 hHeld ?_
              refine tk 15 hHeld ?_ (hy := fun w hSw => by (try dsimp only at hSw); have k0 := (hSw.cell (p := ⟨g, o + j * 2, none⟩) hgl).trans d0; have k1 := (hSw.cell (p := ⟨g, o + j * 2 + 1, none⟩) hgl).trans d1; clear hSw; go_simp; try with_reducible rfl)
              refine tk 16 hHeld ?_
              refine tk 17 hHeld ?_
              refine tk 18 hHeld ?_
              refine tk 19 hHeld ?_ (hy := fun w hSw => by (try dsimp only at hSw); have k0 := (hSw.cell (p := ⟨g, o + (j + 1) * 2, none⟩) hgl).trans e0; have k1 := (hSw.cell (p := ⟨g, o + (j + 1) * 2 + 1, none⟩) hgl).trans e1; clear hSw; go_simp; try with_reducible rfl)
              refine rd1 20 (fun K hK => ?_)
              go_simp
              go_at_call 144
              refine (bi_at y0 y1 x0 x1 HBB.out _).mono ?_
              rintro e w9 ⟨rfl, hb⟩
              refine hK.out _ _ (hHeld.trans (hb.mono hHeld.size)) (fun hHeld => ?_)
              clear hK K hb
              refine tk 21 hHeld ?_
              refine tk 22 hHeld ?_
              refine rd0 ?_
              have HF := Lib.hid hHeld
              clear hHeld
              have HB3 := Lib.hid (HB.out.trans (HF.out.mono hsz))
              clear HF
              go_wp2
              go_roundw
              case rel => exact ⟨j + 2, by omega, by omega, by go_num, HOK, HB3.out⟩
              case measure => simp [intOf]; omega
            | true =>
              have HNo := Lib.hid (show ¬ ChainR L from fun h => by
                have h2 := (h.2.2 (j + 1) hlt _ HX.out).2 (Nat.succ_pos _) (y0, y1) HY.out
                rw [beq_iff_eq] at c1 c2
                exact h2.2 (by rw [c1, c2]))
              go_wp2_with fail
              refine wp_region_held_drew (S := (fun V => Below (wr).heap.size (wr) V)) (by kernel_rfl) ((Below.refl _ _).drew) (fun hHeld => ?_)
              refine tk 0 hHeld ?_
              refine tk 1 hHeld ?_
              refine tk 2 hHeld ?_
              refine tk 3 hHeld ?_ (hy := fun w hSw => by (try dsimp only at hSw); have k0 := (hSw.cell (p := ⟨g, o + (j + 1) * 2, none⟩) hgl).trans e0; have k1 := (hSw.cell (p := ⟨g, o + (j + 1) * 2 + 1, none⟩) hgl).trans e1; clear hSw; go_simp; try with_reducible rfl)
              refine tk 4 hHeld ?_
              refine tk 5 hHeld ?_
              refine tk 6 hHeld ?_
              refine tk 7 hHeld ?_
              refine tk 8 hHeld ?_ (hy := fun w hSw => by (try dsimp only at hSw); have k0 := (hSw.cell (p := ⟨g, o + j * 2, none⟩) hgl).trans d0; have k1 := (hSw.cell (p := ⟨g, o + j * 2 + 1, none⟩) hgl).trans d1; clear hSw; go_simp; try with_reducible rfl)
              refine tk 9 hHeld ?_
              refine tk 10 hHeld ?_
              refine tn 11 hHeld ?_
              refine tn 12 hHeld ?_
              refine tn 13 hHeld ?_
              refine tn 14 hHeld ?_
              refine tn 15 hHeld ?_
              refine tn 16 hHeld ?_
              refine tn 17 hHeld ?_
              refine tn 18 hHeld ?_
              refine tn 19 hHeld ?_
              refine tn 20 hHeld ?_
              refine tn 21 hHeld ?_
              refine tk 22 hHeld ?_
              refine rd0 ?_
              have HF := Lib.hid hHeld
              clear hHeld
              have HB3 := Lib.hid (HB.out.trans (HF.out.mono hsz))
              clear HF
              go_wp2
              go_ret
              exact resB_no HNo.out HB3.out
      · have hd : decide ((k : Int) < (L.length : Int)) = false := decide_eq_false (by omega)
        have HY := Lib.hid (show ChainR L from ⟨n1, n4, fun i hi => HA.out i (by omega)⟩)
        clear hB
        go_wp2
        go_ret
        exact resB_yes HY.out HB.out
set_option maxRecDepth 100000 in
set_option maxHeartbeats 3200000 in
theorem clearright_impl {C : List (List D_Label)} {ca : Option Addr} {cc : Nat} {W : World} (hC : RdSl (Sl R_Label) W W.heap.size C ca cc) :
    Calls Tryz.prog 86 #[.slice ca C.length cc] W (ResB (ClearR C) W) := by
  have HC := Lib.hid hC
  have hcn : C.length ≤ 9223372036854775807 := by have h1 := hC.1; have h2 := hC.2.1; unfold maxLen at h2; omega
  clear hC
  obtain ⟨b1, hb1⟩ : ∃ b, isB (C.length : Int) 1 6 = b := ⟨_, rfl⟩
  have H1 := Lib.hid hb1
  clear hb1
  go_enter Tryz.func86, Tryz.ntmps86
  go_wp2_with fail
  refine (wi_at _ _ _ H1.out _).mono ?_
  rintro e w9 ⟨rfl, rfl⟩
  cases b1 with
  | false =>
    have HN := Lib.hid (show ¬ ClearR C from fun h => by
      have h2 : isB (C.length : Int) 1 6 = true := isB_io.2 ⟨by have := h.1; omega, by have := h.2.1; omega⟩
      rw [H1.out] at h2; cases h2)
    go_wp2
    go_ret
    exact resB_no HN.out (Below.refl _ _)
  | true =>
  have h16 : 1 ≤ C.length ∧ C.length ≤ 6 := by have := isB_io.1 H1.out; omega
  have H16 := Lib.hid h16
  go_wp2
  go_loopw [11] (fun i wr => ∃ k : Nat, k ≤ C.length ∧ i = .int .i64 k ∧ Hid (∀ (j : Nat) x, j < k → C[j]? = some x → ChainR x) ∧ Below W.heap.size W wr) (fun i _ => C.length - (intOf i).toNat)
  case atStart => exact ⟨0, Nat.zero_le _, rfl, Lib.hid fun j x h => absurd h (Nat.not_lt_zero _), Below.refl _ _⟩
  case round =>
    obtain ⟨k, hk, rfl, HA, hB⟩ := hrel
    have HB := Lib.hid hB
    have hsz := hB.size
    by_cases hlt : k < C.length
    · have hdl : decide ((k : Int) < (C.length : Int)) = true := decide_eq_true (by omega)
      obtain ⟨x, hx⟩ := el_some hlt
      have HX := Lib.hid hx
      obtain ⟨g, o, us, rfl, hg, hu, hr⟩ := (HC.out.below (Sl_ok R_Label_ok) hB).at_ hx
      obtain ⟨a1, c1, rfl, k_x⟩ := hr
      have e0 : wr.cell? ⟨g, o + k, none⟩ = some (.slice a1 x.length c1) := by simpa [size_SLab] using hu 0 _ rfl
      have hi0 : (0 : Int) ≤ (k : Int) := Int.natCast_nonneg _
      have hi1 : (k : Int) < (C.length : Int) := by omega
      have HK := Lib.hid (k_x.more R_Label_ok hsz)
      clear hB hx hu k_x
      go_wp2_with fail
      refine (chain_im HK.out).mono ?_
      intro e w1 h
      obtain ⟨z, rfl, hz, hb⟩ := resB_elim h
      have HB1 := Lib.hid (HB.out.trans (hb.mono hsz))
      have HZ := Lib.hid hz
      clear h hz hb
      cases z with
      | false =>
        have HN := Lib.hid (show ¬ ClearR C from fun h => by have := HZ.out.2 (h.2.2 k x HX.out); cases this)
        go_wp2
        go_ret
        exact resB_no HN.out HB1.out
      | true =>
        have HA2 := Lib.hid (show ∀ (j : Nat) x, j < k + 1 → C[j]? = some x → ChainR x from fun j y hj hy => by
          by_cases e : j = k
          · subst e
            have := HX.out
            rw [hy] at this
            obtain rfl := Option.some.inj this
            exact HZ.out.1 rfl
          · exact HA.out j y (by omega) hy)
        go_wp2
        go_roundw
        case rel => exact ⟨k + 1, by omega, by go_num, HA2, HB1.out⟩
        case measure => simp [intOf]; omega
    · have hdl : decide ((k : Int) < (C.length : Int)) = false := decide_eq_false (by omega)
      have HCR := Lib.hid (show ClearR C from ⟨H16.out.1, H16.out.2, fun i x hx => HA.out i x (by have := el_lt hx; omega) hx⟩)
      clear hB
      go_wp2
      go_ret
      exact resB_yes HCR.out HB.out
end Go.Proofs.YtelhmacfljffhaaGreat.RepC
end
section
namespace Go.Proofs.YtelhmacfljffhaaGreat.RepC
open Go.RowKit RowC ValC SpanC KeptC Go.Lib CfC
set_option linter.unusedVariables false
set_option linter.unusedSimpArgs false
theorem setCells_put (g : Nat) : ∀ (cs : List Value) (W : World) (o : Nat), W.setCells g o cs = putCells W g o cs
  | [], _, _ => rfl
  | c :: cs, W, o => by simp only [World.setCells, putCells]; exact setCells_put g cs _ _
theorem run_clear_labs (W : World) (ty : TypeId) (g k n c : Nat) (hn : 0 < n) (hc : ∀ j, j < n * 2 → (W.cell? ⟨g, k + j, none⟩).isSome = true) (hf : Sf W g) :
    ∃ w', (Builtin.clear_ #[72] ty #[.slice (some ⟨g, k, none⟩) n c]).run Tryz.prog W = .ok (.tuple #[]) w' ∧ (∀ j, j < k → w'.cell? ⟨g, j, none⟩ = W.cell? ⟨g, j, none⟩) ∧ Sf w' g ∧ Off (fun x => x = g) W w' := by
  have hzl : (Builtin.zeroCells (Value.agg #[.int .i64 0, .int .i64 0]).cells n).toList.length = n * 2 := by
    simp [Builtin.zeroCells, Value.cells]
  have hone : ∀ v ∈ (Builtin.zeroCells (Value.agg #[.int .i64 0, .int .i64 0]).cells n).toList, v.oneCell' = true := by
    intro v hv
    simp [Builtin.zeroCells, Value.cells] at hv
    obtain ⟨i, _, rfl⟩ := hv
    rcases Nat.mod_two_eq_zero_or_one i with e | e <;> rw [e] <;> rfl
  have hst := run_storeCells_cells (P := Tryz.prog) g k (Builtin.zeroCells (Value.agg #[.int .i64 0, .int .i64 0]).cells n).toList 0 W (fun j hj => by rw [hzl] at hj; simpa using hc j hj) (fun j _ => hf _) hone
  simp only [Nat.add_zero] at hst
  obtain ⟨iL, hiL, hzL1, hsL, hbL⟩ := infoLb
  have hv : ∀ w, (zeroValue 67).run Tryz.prog w = .ok (.agg #[.int .i64 0, .int .i64 0]) w := fun w => by
    simp [zeroValue, typeInfo, hiL, hzL1]
  refine ⟨W.setCells g k (Builtin.zeroCells (Value.agg #[.int .i64 0, .int .i64 0]).cells n).toList, ?_, fun j hj => ?_, fun j => ?_, ?_⟩
  · obtain ⟨m, rfl⟩ : ∃ m, n = m + 1 := ⟨n - 1, by omega⟩
    simp [Builtin.clear_, run_underlying Tryz.underlying72, hv, hst]
  · rw [setCells_put]; exact putCells_other g _ _ _ (Or.inl hj)
  · rw [setCells_put, putCells_frozen]; exact hf j
  · rw [setCells_put]; exact putCells_off g _ _ _
def CmpR (g cap : Nat) (d : Array Lb) (w : World) (e : Ending) (w' : World) : Prop := e = .returned (.slice (some ⟨g, 0, none⟩) (compactUpTo d d.size).length cap) ∧ (∀ (j : Nat) x, (compactUpTo d d.size)[j]? = some x → w'.cell? ⟨g, j * 2, none⟩ = some (.int .i64 x.1) ∧ w'.cell? ⟨g, j * 2 + 1, none⟩ = some (.int .i64 x.2)) ∧ Sf w' g ∧ Off (fun x => x = g) w w'
theorem cmpR_all {g cap : Nat} {d : Array Lb} {w w' : World} {n : Nat} (hn : n = d.size) (hall : ∀ j, j < d.size → keeps d j = true) (hR : Rw w' g d) (hs : Sf w' g) (ho : Off (fun x => x = g) w w') : CmpR g cap d w (.returned (.slice (some ⟨g, 0, none⟩) n cap)) w' := by
  have e : compactUpTo d d.size = d.toList := by rw [compactUpTo_all d _ hall, range_map_get]
  refine ⟨by rw [e, hn]; simp, fun j x hx => ?_, hs, ho⟩
  rw [e] at hx
  have hj : j < d.size := by have := el_lt hx; simpa using this
  have hx' : d[j]! = x := by
    rw [Array.getElem?_toList, Array.getElem?_eq_getElem hj] at hx
    rw [getElem!_pos d j hj]; exact Option.some.inj hx
  rw [← hx']
  exact hR j hj
set_option maxRecDepth 100000 in
set_option maxHeartbeats 3200000 in
theorem compact_labs {g cap : Nat} {d : Array Lb} {W : World} (hR : Rw W g d) (hS : Sf W g) (hn : d.size ≤ 1048576) (hcap : d.size ≤ cap) (hg : g < W.heap.size) :
    Calls Tryz.prog 140 #[.slice (some ⟨g, 0, none⟩) d.size cap] W (CmpR g cap d W) := by
  have HR0 := Lib.hid hR
  have HS0 := Lib.hid hS
  clear hR hS
  by_cases h2 : d.size < 2
  · have hd : decide ((d.size : Int) < 2) = true := decide_eq_true (by omega)
    go_enter Tryz.func140, Tryz.ntmps140
    go_wp2
    go_ret
    exact cmpR_all rfl (fun j hj => keeps_lt_one d j (by omega)) HR0.out HS0.out (Off.refl _ _)
  have hd : decide ((d.size : Int) < 2) = false := decide_eq_false (by omega)
  go_enter Tryz.func140, Tryz.ntmps140
  go_wp2
  go_loopw [3] (fun i wr => ∃ m : Nat, m + 1 ≤ d.size ∧ i = .int .i64 ((m + 1 : Nat) : Int) ∧ Hid (∀ j, j < m + 1 → keeps d j = true) ∧ Below W.heap.size W wr) (fun i _ => d.size - (intOf i).toNat)
  case atStart => exact ⟨0, by omega, rfl, Lib.hid (keeps_lt_one d), Below.refl _ _⟩
  case round =>
    obtain ⟨m, hm, rfl, HK, hB⟩ := hrel
    obtain ⟨wo, rfl⟩ : ∃ x, x = wr := ⟨_, rfl⟩
    have HB := Lib.hid hB
    have hsz := hB.size
    have HR := Lib.hid (HR0.out.below hg hB)
    have HS := Lib.hid (HS0.out.below hg hB)
    have hcast : ((m + 1 : Nat) : Int) = (m : Int) + 1 := by omega
    clear hB
    by_cases hlt : m + 1 < d.size
    · have hdl : decide (((m + 1 : Nat) : Int) < (d.size : Int)) = true := decide_eq_true (by omega)
      have hdl2 : decide ((m : Int) + 1 < (d.size : Int)) = true := decide_eq_true (by omega)
      obtain ⟨⟨x0, x1⟩, hx⟩ : ∃ x, d[m + 1]! = x := ⟨_, rfl⟩
      obtain ⟨⟨y0, y1⟩, hy⟩ : ∃ x, d[m]! = x := ⟨_, rfl⟩
      obtain ⟨c0, c1⟩ := HR.out (m + 1) hlt
      obtain ⟨p0, p1⟩ := HR.out m (by omega)
      rw [hx] at c0 c1
      rw [hy] at p0 p1
      have HXY := Lib.hid (And.intro hx hy)
      have HG := Lib.hid (show g < wo.heap.size by omega)
      have hi0 : (0 : Int) ≤ (m : Int) + 1 := by omega
      have hi1 : (m : Int) + 1 < (d.size : Int) := by omega
      have hj0 : (0 : Int) ≤ (m : Int) := Int.natCast_nonneg _
      have hj1 : (m : Int) < (d.size : Int) := by omega
      have hsub : IntKind.i64.wrap ((m : Int) + 1 - 1) = (m : Int) := by rw [show (m : Int) + 1 - 1 = (m : Int) by omega]; exact IntWalk.i64_in _ (by omega)
      have hsub2 : IntKind.i64.wrap (m : Int) = (m : Int) := IntWalk.i64_in _ (by omega)
      obtain ⟨b, hb⟩ : ∃ b, decide (((x0, x1) : Int × Int) = (y0, y1)) = b := ⟨_, rfl⟩
      have hE := eql_lab x0 x1 y0 y1 b hb
      have HBE := Lib.hid hb
      clear hx hy hb
      cases b with
      | false =>
        have HK2 := Lib.hid (show ∀ j, j < m + 1 + 1 → keeps d j = true from fun j hj => by
          by_cases e : j = m + 1
          · subst e; exact keeps_pos (by rw [Nat.add_sub_cancel, HXY.out.1, HXY.out.2]; exact of_decide_eq_false HBE.out)
          · exact HK.out j (by omega))
        go_wp2_with fail
        refine wp_region_held_drew (S := (fun V => Below (wo).heap.size (wo) V)) (by kernel_rfl) ((Below.refl _ _).drew) (fun hHeld => ?_)
        refine tk 0 hHeld ?_
        refine tk 1 hHeld ?_
        refine tk 2 hHeld ?_
        refine tk 3 hHeld ?_ (hy := fun w hSw => by (try dsimp only at hSw); have k0 := (hSw.cell (p := ⟨g, (m + 1) * 2, none⟩) HG.out).trans c0; have k1 := (hSw.cell (p := ⟨g, (m + 1) * 2 + 1, none⟩) HG.out).trans c1; clear hSw; go_simp; try with_reducible rfl)
        refine tk 4 hHeld ?_
        refine tk 5 hHeld ?_
        refine tk 6 hHeld ?_
        refine tk 7 hHeld ?_
        refine tk 8 hHeld ?_ (hy := fun w hSw => by (try dsimp only at hSw); have k0 := (hSw.cell (p := ⟨g, m * 2, none⟩) HG.out).trans p0; have k1 := (hSw.cell (p := ⟨g, m * 2 + 1, none⟩) HG.out).trans p1; clear hSw; go_simp; try with_reducible rfl)
        refine tk 9 hHeld ?_
        refine rd0 ?_
        have HF := Lib.hid hHeld
        clear hHeld
        have HB2 := Lib.hid (HB.out.trans (HF.out.mono hsz))
        clear HF
        go_wp2
        go_roundw
        case rel => exact ⟨m + 1, by omega, by go_num, HK2, HB2.out⟩
        case measure => simp [intOf]; omega
      | true =>
        have HDup := Lib.hid (show keeps d (m + 1) = false from keeps_neg (by omega) (by rw [Nat.add_sub_cancel, HXY.out.1, HXY.out.2]; exact of_decide_eq_true HBE.out))
        have hne : ¬ cap = m + 1 := by omega
        have hne2 : ¬ m + 1 = cap := by omega
        go_wp2_with fail
        refine wp_region_held_drew (S := (fun V => Below (wo).heap.size (wo) V)) (by kernel_rfl) ((Below.refl _ _).drew) (fun hHeld => ?_)
        refine tk 0 hHeld ?_
        refine tk 1 hHeld ?_
        refine tk 2 hHeld ?_
        refine tk 3 hHeld ?_ (hy := fun w hSw => by (try dsimp only at hSw); have k0 := (hSw.cell (p := ⟨g, (m + 1) * 2, none⟩) HG.out).trans c0; have k1 := (hSw.cell (p := ⟨g, (m + 1) * 2 + 1, none⟩) HG.out).trans c1; clear hSw; go_simp; try with_reducible rfl)
        refine tk 4 hHeld ?_
        refine tk 5 hHeld ?_
        refine tk 6 hHeld ?_
        refine tk 7 hHeld ?_
        refine tk 8 hHeld ?_ (hy := fun w hSw => by (try dsimp only at hSw); have k0 := (hSw.cell (p := ⟨g, m * 2, none⟩) HG.out).trans p0; have k1 := (hSw.cell (p := ⟨g, m * 2 + 1, none⟩) HG.out).trans p1; clear hSw; go_simp; try with_reducible rfl)
        refine tk 9 hHeld ?_
        refine rd0 ?_
        have HF := Lib.hid hHeld
        clear hHeld
        have HB2 := Lib.hid (HB.out.trans (HF.out.mono hsz))
        have hz2 := HB2.out.size
        have HR2 := Lib.hid (HR0.out.below hg HB2.out)
        have HS2 := Lib.hid (HS0.out.below hg HB2.out)
        have HO2 := Lib.hid (Off.of_below (S := fun x => x = g) (Off.refl _ W) HB2.out)
        clear HF c0 c1 p0 p1 hE HR HS
        obtain ⟨n2, hn2⟩ : ∃ n2, n2 = d.size - (m + 1) := ⟨_, rfl⟩
        obtain ⟨c2, hc2⟩ : ∃ c2, c2 = cap - (m + 1) := ⟨_, rfl⟩
        obtain ⟨w2, hw2⟩ : ∃ w, w = wo.drew := ⟨_, rfl⟩
        rw [← hw2] at HR2 HS2 HO2 hz2
        clear HB2
        go_wp2
        rw [← hn2, ← hc2, ← hw2]
        have HN2 := Lib.hid hn2
        have hn2d : n2 ≤ d.size := by omega
        clear hw2 hn2 hc2
        go_loopw [3, 5] (fun a i wr => ∃ (kk q : Nat) (dk : Array Lb), a = .int .i64 (kk : Int) ∧ i = .int .i64 ((q + 1 : Nat) : Int) ∧ m + 1 + (q + 1) ≤ d.size ∧ Hid (Rw wr g dk) ∧ Hid (Sf wr g) ∧ Hid (CompInv d (m + 1 + (q + 1)) kk dk) ∧ Hid (Off (fun x => x = g) W wr)) (fun _ i _ => d.size - (intOf i).toNat)
        case atStart => exact ⟨m + 1, 0, d, by go_num, rfl, by omega, HR2, HS2, Lib.hid (CompInv.start HK.out HDup.out), HO2⟩
        case round =>
          obtain ⟨kk, q, dk, rfl, rfl, hq, HR, HS, HI, HO⟩ := hrel
          have hkk := HI.out.lt
          have hds := HI.out.size
          have hzw := HO.out.size
          have hcast2 : ((q + 1 : Nat) : Int) = (q : Int) + 1 := by omega
          by_cases hql : q + 1 < n2
          · have hdq : decide (((q + 1 : Nat) : Int) < (n2 : Int)) = true := decide_eq_true (by omega)
            have hdq2 : decide ((q : Int) + 1 < (n2 : Int)) = true := decide_eq_true (by omega)
            have hmq : m + 1 + (q + 1) < d.size := by have := HN2.out; omega
            obtain ⟨⟨x0, x1⟩, hx⟩ : ∃ x, d[m + 1 + (q + 1)]! = x := ⟨_, rfl⟩
            obtain ⟨⟨y0, y1⟩, hy⟩ : ∃ x, d[m + 1 + q]! = x := ⟨_, rfl⟩
            obtain ⟨c0, c1⟩ := HR.out (m + 1 + (q + 1)) (by omega)
            obtain ⟨p0, p1⟩ := HR.out (m + 1 + q) (by omega)
            rw [HI.out.high _ (by omega), hx, Nat.add_mul] at c0 c1
            rw [HI.out.high _ (by omega), hy, Nat.add_mul] at p0 p1
            have HXY := Lib.hid (And.intro hx hy)
            have HG := Lib.hid (show g < wr.heap.size by omega)
            have hi0 : (0 : Int) ≤ (q : Int) + 1 := by omega
            have hi1 : (q : Int) + 1 < (n2 : Int) := by omega
            have hj0 : (0 : Int) ≤ (q : Int) := Int.natCast_nonneg _
            have hj1 : (q : Int) < (n2 : Int) := by omega
            have hs1 : IntKind.i64.wrap ((q : Int) + 1 - 1) = (q : Int) := by rw [show (q : Int) + 1 - 1 = (q : Int) by omega]; exact IntWalk.i64_in _ (by omega)
            have hs2 : IntKind.i64.wrap (q : Int) = (q : Int) := IntWalk.i64_in _ (by omega)
            obtain ⟨b, hb⟩ : ∃ b, decide (((x0, x1) : Int × Int) = (y0, y1)) = b := ⟨_, rfl⟩
            have hE := neq_lab x0 x1 y0 y1 b hb
            have HBE2 := Lib.hid hb
            clear hx hy hb
            cases b with
            | true =>
              have HI2 := Lib.hid (HI.out.skip (keeps_neg (by omega) (by rw [show m + 1 + (q + 1) - 1 = m + 1 + q by omega, HXY.out.1, HXY.out.2]; exact of_decide_eq_true HBE2.out)))
              go_wp2_with fail
              refine wp_region_held_drew (S := (fun V => Below (wr).heap.size (wr) V)) (by kernel_rfl) ((Below.refl _ _).drew) (fun hHeld => ?_)
              refine tk 0 hHeld ?_
              refine tk 1 hHeld ?_
              refine tk 2 hHeld ?_
              refine tk 3 hHeld ?_ (hy := fun w hSw => by (try dsimp only at hSw); have k0 := (hSw.cell (p := ⟨g, (m + 1) * 2 + (q + 1) * 2, none⟩) HG.out).trans c0; have k1 := (hSw.cell (p := ⟨g, (m + 1) * 2 + (q + 1) * 2 + 1, none⟩) HG.out).trans c1; clear hSw; go_simp; try with_reducible rfl)
              refine tk 4 hHeld ?_
              refine tk 5 hHeld ?_
              refine tk 6 hHeld ?_
              refine tk 7 hHeld ?_
              refine tk 8 hHeld ?_ (hy := fun w hSw => by (try dsimp only at hSw); have k0 := (hSw.cell (p := ⟨g, (m + 1) * 2 + q * 2, none⟩) HG.out).trans p0; have k1 := (hSw.cell (p := ⟨g, (m + 1) * 2 + q * 2 + 1, none⟩) HG.out).trans p1; clear hSw; go_simp; try with_reducible rfl)
              refine tk 9 hHeld ?_
              refine rd0 ?_
              have HF := Lib.hid hHeld
              clear hHeld
              have HR3 := Lib.hid (HR.out.below HG.out HF.out)
              have HS3 := Lib.hid (HS.out.below HG.out HF.out)
              have HO3 := Lib.hid (HO.out.of_below HF.out)
              clear HF c0 c1 p0 p1 hE
              go_wp2
              go_roundw
              case rel => exact ⟨kk, q + 1, dk, rfl, by go_num, by omega, HR3, HS3, HI2, HO3⟩
              case measure => simp [intOf]; omega
            | false =>
              have HI2 := Lib.hid (show CompInv d (m + 1 + (q + 1) + 1) (kk + 1) (dk.setIfInBounds kk (x0, x1)) from by
                have := HI.out.keep hmq (keeps_pos (by rw [show m + 1 + (q + 1) - 1 = m + 1 + q by omega, HXY.out.1, HXY.out.2]; exact of_decide_eq_false HBE2.out))
                rw [HXY.out.1] at this
                exact this)
              go_wp2_with fail
              refine wp_region_held_drew (S := (fun V => Below (wr).heap.size (wr) V)) (by kernel_rfl) ((Below.refl _ _).drew) (fun hHeld => ?_)
              refine tk 0 hHeld ?_
              refine tk 1 hHeld ?_
              refine tk 2 hHeld ?_
              refine tk 3 hHeld ?_ (hy := fun w hSw => by (try dsimp only at hSw); have k0 := (hSw.cell (p := ⟨g, (m + 1) * 2 + (q + 1) * 2, none⟩) HG.out).trans c0; have k1 := (hSw.cell (p := ⟨g, (m + 1) * 2 + (q + 1) * 2 + 1, none⟩) HG.out).trans c1; clear hSw; go_simp; try with_reducible rfl)
              refine tk 4 hHeld ?_
              refine tk 5 hHeld ?_
              refine tk 6 hHeld ?_
              refine tk 7 hHeld ?_
              refine tk 8 hHeld ?_ (hy := fun w hSw => by (try dsimp only at hSw); have k0 := (hSw.cell (p := ⟨g, (m + 1) * 2 + q * 2, none⟩) HG.out).trans p0; have k1 := (hSw.cell (p := ⟨g, (m + 1) * 2 + q * 2 + 1, none⟩) HG.out).trans p1; clear hSw; go_simp; try with_reducible rfl)
              refine tk 9 hHeld ?_
              refine rd0 ?_
              have HF := Lib.hid hHeld
              clear hHeld
              have HR3 := Lib.hid (HR.out.below HG.out HF.out)
              have HS3 := Lib.hid (HS.out.below HG.out HF.out)
              have HO3 := Lib.hid (HO.out.of_below HF.out)
              have r0 := (HF.out.cell (p := ⟨g, (m + 1) * 2 + (q + 1) * 2, none⟩) HG.out).trans c0
              have r1 := (HF.out.cell (p := ⟨g, (m + 1) * 2 + (q + 1) * 2 + 1, none⟩) HG.out).trans c1
              obtain ⟨t0, t1⟩ := HR3.out kk (by omega)
              have s0 := HS3.out (kk * 2)
              have s1 := HS3.out (kk * 2 + 1)
              obtain ⟨w3, hw3⟩ : ∃ w, w = wr.drew := ⟨_, rfl⟩
              rw [← hw3] at HR3 HS3 HO3 r0 r1 t0 t1 s0 s1
              rw [← hw3]
              have HR4 := Lib.hid (HR3.out.set (i := kk) (by omega) x0 x1)
              have HS4 := Lib.hid ((HS3.out.set (i := kk * 2) (.int .i64 x0)).set (i := kk * 2 + 1) (.int .i64 x1))
              have HO4 := Lib.hid ((HO3.out.setCell (p := ⟨g, kk * 2, none⟩) rfl (.int .i64 x0)).setCell (p := ⟨g, kk * 2 + 1, none⟩) rfl (.int .i64 x1))
              have hk0 : (0 : Int) ≤ (kk : Int) := Int.natCast_nonneg _
              have hk1 : (kk : Int) < (d.size : Int) := by omega
              clear HF c0 c1 p0 p1 hE hw3
              go_wp2
              go_roundw
              case rel => exact ⟨kk + 1, q + 1, _, by go_num, by go_num, by omega, HR4, HS4, HI2, HO4⟩
              case measure => simp [intOf]; omega
          · have hdq : decide (((q + 1 : Nat) : Int) < (n2 : Int)) = false := decide_eq_false (by omega)
            have hdq2 : decide ((q : Int) + 1 < (n2 : Int)) = false := decide_eq_false (by omega)
            have hend : m + 1 + (q + 1) = d.size := by have := HN2.out; omega
            have hnk : ¬ cap = kk := by omega
            have hnk2 : ¬ kk = cap := by omega
            obtain ⟨w4, hr4, hk4, hS4, hO4⟩ := run_clear_labs wr 37373737 g (kk * 2) (d.size - kk) (cap - kk) (by omega) (fun j hj => by
              have h5 := HR.out (kk + j / 2) (by omega)
              rcases Nat.mod_two_eq_zero_or_one j with e | e
              · rw [show kk * 2 + j = (kk + j / 2) * 2 by omega, h5.1]; rfl
              · rw [show kk * 2 + j = (kk + j / 2) * 2 + 1 by omega, h5.2]; rfl) HS.out
            have HFin := Lib.hid (show CmpR g cap d W (.returned (.slice (some ⟨g, 0, none⟩) kk cap)) w4 from by
              have hI := HI.out
              rw [hend] at hI
              refine ⟨by rw [hI.len], fun j x hx => ?_, hS4, HO.out.trans hO4⟩
              have hjk : j < kk := by have := el_lt hx; rw [hI.len] at this; exact this
              have h6 := hI.low j hjk
              rw [h6] at hx
              obtain rfl := Option.some.inj hx
              rw [hk4 _ (by omega), hk4 _ (by omega)]
              exact HR.out j (by omega))
            have hr5 : ∀ ty, (Builtin.clear_ #[72] ty #[.slice (some ⟨g, kk * 2, none⟩) (d.size - kk) (cap - kk)]).run Tryz.prog wr = .ok (.tuple #[]) w4 := fun ty => hr4
            clear hr4 hk4 hS4 hO4
            go_wp2
            go_ret
            exact HFin.out
    · have hdl : decide (((m + 1 : Nat) : Int) < (d.size : Int)) = false := decide_eq_false (by omega)
      have hdl2 : decide ((m : Int) + 1 < (d.size : Int)) = false := decide_eq_false (by omega)
      have HO := Lib.hid (Off.of_below (S := fun x => x = g) (Off.refl _ W) HB.out)
      go_wp2
      go_ret
      exact cmpR_all rfl (fun j hj => HK.out j (by omega)) HR.out HS.out HO.out
end Go.Proofs.YtelhmacfljffhaaGreat.RepC
end
section
namespace Go.Proofs.YtelhmacfljffhaaGreat.RepC
open Go.RowKit RowC ValC SpanC KeptC Go.Lib CfC
set_option linter.unusedVariables false
set_option linter.unusedSimpArgs false
theorem chain_rP {L : List D_Label} (h : ChainR L) {a : D_Label} (ha : a ∈ L) : LabC.rP a.1 a.2 := by
  obtain ⟨i, hi⟩ := List.getElem?_of_mem ha
  have := (h.2.2 i (el_lt hi) a hi).1
  exact (LabC.rB_iff _ _).1 this
theorem clear_flat {C : List (List D_Label)} (h : ClearR C) : 0 < C.flatten.length ∧ C.flatten.length ≤ 24 ∧ ∀ a ∈ C.flatten, LabC.rP a.1 a.2 := by
  obtain ⟨h1, h6, hc⟩ := h
  have hmem : ∀ x ∈ C, ChainR x := fun x hx => by
    obtain ⟨i, hi⟩ := List.getElem?_of_mem hx
    exact hc i x hi
  refine ⟨?_, ?_, fun a ha => ?_⟩
  · match C, h1, hmem with
    | x :: xs, _, hm => rw [List.flatten_cons, List.length_append]; have := (hm x List.mem_cons_self).1; omega
  · have : ∀ (M : List (List D_Label)), (∀ x ∈ M, ChainR x) → M.flatten.length ≤ 4 * M.length := by
      intro M
      induction M with
      | nil => intro _; simp
      | cons x xs ih =>
        intro hm
        rw [List.flatten_cons, List.length_append, List.length_cons]
        have := (hm x List.mem_cons_self).2.1
        have := ih fun y hy => hm y (List.mem_cons_of_mem _ hy)
        omega
    have := this C hmem
    omega
  · obtain ⟨x, hx, ha⟩ := List.mem_flatten.1 ha
    exact chain_rP (hmem x hx) ha
theorem labs_compact {C : List (List D_Label)} (h : ClearR C) {d : Array Lb} (hm : ∀ a, (∃ j, j < d.size ∧ d[j]! = a) ↔ a ∈ C.flatten) (hs : ∀ i j, i < j → j < d.size → ¬ (d[j]!.1 < d[i]!.1 ∨ d[j]!.1 = d[i]!.1 ∧ d[j]!.2 < d[i]!.2)) : compactUpTo d d.size = labsOf C := by
  obtain ⟨h1, h2, _⟩ := compact_sorted (d := d) (fun i j hij hj => hs i j hij hj) d.size (Nat.le_refl _)
  refine sorted_eq h1 (labs_sorted C 32) fun a => ?_
  rw [h2, hm]
  show _ ↔ a ∈ labsOf C
  rw [mem_labs, List.mem_flatten]
  constructor
  · rintro ⟨x, hx, ha⟩
    exact ⟨(clear_flat h).2.2 a (List.mem_flatten.2 ⟨x, hx, ha⟩), x, hx, ha⟩
  · rintro ⟨_, x, hx, ha⟩
    exact ⟨x, hx, ha⟩
theorem compact_len_le {d : Array Lb} : ∀ m, (compactUpTo d m).length ≤ m
  | 0 => Nat.le_refl _
  | m + 1 => by
    rw [compactUpTo_succ, List.length_append]
    have := compact_len_le (d := d) m
    split <;> simp <;> omega
set_option maxRecDepth 100000 in
set_option maxHeartbeats 1600000 in
theorem labs_impl {C : List (List D_Label)} {ca : Option Addr} {cc : Nat} {W : World} (hR : ClearR C) (hC : RdSl (Sl R_Label) W W.heap.size C ca cc) :
    Calls Tryz.prog 87 #[.slice ca C.length cc] W (NewS R_Label (labsOf C) W) := by
  obtain ⟨hf0, hf24, _⟩ := clear_flat hR
  have HR := Lib.hid hR
  obtain ⟨M, hM⟩ : ∃ M, labsOf C = M := ⟨_, rfl⟩
  have HM := Lib.hid hM
  rw [hM]
  clear hM
  have hcon := concat_labs (W := W) (by omega) hC
  have hlc := fun (d : Array Lb) h1 h2 => (labs_compact (d := d) HR.out h1 h2).trans HM.out
  obtain ⟨F, hF⟩ : ∃ F, C.flatten = F := ⟨_, rfl⟩
  rw [hF] at hf0 hf24 hcon hlc
  have HLC := Lib.hid hlc
  have HCON := Lib.hid hcon
  clear hF hlc hcon
  go_enter Tryz.func87, Tryz.ntmps87
  go_wp2_with fail
  refine HCON.out.mono ?_
  intro e w1 h
  obtain ⟨v, lo, rfl, hlo, hlw, hrow, hb⟩ := newB_elim h
  obtain ⟨a1, c1, rfl, ho⟩ := hrow.sl R_Label_ok flat_Label
  have HRd := Lib.hid (ho.rd R_Label_ok (B := w1.heap.size) fun k hk => (hrow.blk k hk).2)
  have HB1 := Lib.hid hb
  have hz1 := hb.size
  clear h hrow ho hb hC
  go_wp2_with fail
  refine (sorted_labs (by omega) hf0 HRd.out).mono ?_
  intro e w2 h
  obtain ⟨g, c, d, rfl, hdc, hcm, hg1, hg2, hRw, hSf, hds, hmem, hso, hb⟩ := srtR_elim h
  have HRw := Lib.hid hRw
  have HSf := Lib.hid hSf
  have HE := Lib.hid (HLC.out d hmem hso)
  have HB2 := Lib.hid (HB1.out.trans (hb.mono hz1))
  have hz2 := HB2.out.size
  have HCM := Lib.hid hcm
  have hd24 : d.size ≤ 24 := by omega
  clear h hRw hSf hmem hso hb hcm hds
  go_wp2_with fail
  have hcp := compact_labs HRw.out HSf.out (by omega) hdc hg2
  have hlen := compact_len_le (d := d) d.size
  unfold CmpR at hcp
  rw [HE.out] at hcp hlen
  refine hcp.mono ?_
  rintro e w3 ⟨rfl, hcl, hSf3, hoff⟩
  have HB3 := Lib.hid (HB2.out.trans (hoff.below hz2 fun k hk => by rw [hk]; omega))
  have HN := Lib.hid (show OwSl R_Label w3 (Rg W.heap.size w3.heap.size) M (some ⟨g, 0, none⟩) c from
    ⟨by omega, HCM.out, fun _ => ⟨g, fun _ _ => False, rfl, ⟨by omega, Nat.lt_of_lt_of_le hg2 hoff.size⟩, hSf3, fun i k h => h.elim, fun i j k _ h => h.elim, fun i x hx => by
      obtain ⟨x0, x1⟩ := x
      obtain ⟨q0, q1⟩ := hcl i _ hx
      exact ⟨[.int .i64 x0, .int .i64 x1], CellsAt.cons.2 ⟨q0, CellsAt.cons.2 ⟨q1, CellsAt.nil⟩⟩, mkow_Label⟩⟩⟩)
  clear hcl hSf3 hoff hlen hcp
  go_wp2
  go_ret
  exact ⟨_, c, rfl, HN.out, HB3.out⟩
end Go.Proofs.YtelhmacfljffhaaGreat.RepC
end
section
namespace Go.Proofs.YtelhmacfljffhaaGreat.RepC
open Go.RowKit RowC ValC SpanC KeptC CfC
set_option linter.unusedVariables false
set_option linter.unusedSimpArgs false
def hitP (f t : D_Label) (p : D_Pair) : Prop := p.1 = f ∧ p.2.1 = t
instance (f t : D_Label) (p : D_Pair) : Decidable (hitP f t p) := by unfold hitP; exact inferInstance
def ixP (P : List D_Pair) (f t : D_Label) : Int := match P.findIdx? (fun p => decide (hitP f t p)) with
  | some i => (i : Int)
  | none => -1
theorem ixP_hit {P : List D_Pair} {f t : D_Label} {k : Nat} {x : D_Pair} (hx : P[k]? = some x) (hh : hitP f t x) (ha : ∀ (q : Nat) y, q < k → P[q]? = some y → ¬ hitP f t y) : ixP P f t = (k : Int) := by
  have h : P.findIdx? (fun p => decide (hitP f t p)) = some k := by
    rw [List.findIdx?_eq_some_iff_getElem]
    obtain ⟨hk, hxe⟩ := List.getElem?_eq_some_iff.1 hx
    refine ⟨hk, by rw [hxe]; exact decide_eq_true hh, fun j hj => ?_⟩
    have := ha j P[j] hj (List.getElem?_eq_getElem _)
    simpa using this
  unfold ixP
  rw [h]
theorem ixP_none {P : List D_Pair} {f t : D_Label} (ha : ∀ (q : Nat) y, P[q]? = some y → ¬ hitP f t y) : ixP P f t = -1 := by
  have h : P.findIdx? (fun p => decide (hitP f t p)) = none := by
    rw [List.findIdx?_eq_none_iff]
    intro x hx
    obtain ⟨i, hi⟩ := List.getElem?_of_mem hx
    exact decide_eq_false (ha i x hi)
  unfold ixP
  rw [h]
theorem ixP_ge {P : List D_Pair} {f t : D_Label} : 0 ≤ ixP P f t ↔ ∃ (q : Nat) (y : D_Pair), P[q]? = some y ∧ hitP f t y := by
  constructor
  · intro h
    refine Classical.byContradiction fun hn => ?_
    rw [ixP_none fun q y hy hh => hn ⟨q, y, hy, hh⟩] at h
    omega
  · rintro ⟨q, y, hy, hh⟩
    refine Classical.byContradiction fun hn => ?_
    unfold ixP at hn
    split at hn
    · omega
    · rename_i h
      rw [List.findIdx?_eq_none_iff] at h
      have := h y (List.mem_of_getElem? hy)
      exact absurd hh (of_decide_eq_false this)
theorem rd_take {α : Type} {E : Rp α} {W : World} {B : Nat} {L : List α} {a : Option Addr} {c : Nat} (h : RdSl E W B L a c) (k : Nat) : RdSl E W B (L.take k) a c := by
  refine ⟨by rw [List.length_take]; have := h.1; omega, h.2.1, fun hk => ?_⟩
  rw [List.length_take] at hk
  obtain ⟨g, o, ha, hg, hc⟩ := h.2.2 (by omega)
  refine ⟨g, o, ha, hg, fun i x hx => hc i x ?_⟩
  rw [List.getElem?_take] at hx
  split at hx
  · exact hx
  · cases hx
set_option maxRecDepth 100000 in
set_option maxHeartbeats 1600000 in
theorem hitp_v (x0 x1 x2 x3 x4 f0 f1 t0 t1 : Int) (b1 b2 : Nat) {b : Bool} {W : World} (hb : decide (hitP (f0, f1) (t0, t1) ((x0, x1), (x2, x3), x4)) = b) (h1 : Blk W b1 67 #[.int .i64 f0, .int .i64 f1]) (h2 : Blk W b2 67 #[.int .i64 t0, .int .i64 t1]) :
    Calls Tryz.prog 182 #[.agg #[.int .i64 x0, .int .i64 x1, .int .i64 x2, .int .i64 x3, .int .i64 x4], .pointer (some ⟨b1, 0, none⟩), .pointer (some ⟨b2, 0, none⟩)] W fun e w' => e = .returned (.bool b) ∧ Below W.heap.size W w' := by
  have HB0 := Lib.hid (show Below W.heap.size W (W.alloc (.cells #[.int .i64 x0, .int .i64 x1, .int .i64 x2, .int .i64 x3, .int .i64 x4] 149)) from (Below.refl _ _).alloc (Nat.le_refl _) _)
  have H1 := h1.alloc (.cells #[.int .i64 x0, .int .i64 x1, .int .i64 x2, .int .i64 x3, .int .i64 x4] 149)
  have H2 := h2.alloc (.cells #[.int .i64 x0, .int .i64 x1, .int .i64 x2, .int .i64 x3, .int .i64 x4] 149)
  have a0 : (W.alloc (.cells #[.int .i64 x0, .int .i64 x1, .int .i64 x2, .int .i64 x3, .int .i64 x4] 149)).cell? ⟨b1, 0, none⟩ = some (.int .i64 f0) := H1.at_ 0 rfl
  have a1 : (W.alloc (.cells #[.int .i64 x0, .int .i64 x1, .int .i64 x2, .int .i64 x3, .int .i64 x4] 149)).cell? ⟨b1, 1, none⟩ = some (.int .i64 f1) := H1.at_ 1 rfl
  have d0 : (W.alloc (.cells #[.int .i64 x0, .int .i64 x1, .int .i64 x2, .int .i64 x3, .int .i64 x4] 149)).cell? ⟨b2, 0, none⟩ = some (.int .i64 t0) := H2.at_ 0 rfl
  have d1 : (W.alloc (.cells #[.int .i64 x0, .int .i64 x1, .int .i64 x2, .int .i64 x3, .int .i64 x4] 149)).cell? ⟨b2, 1, none⟩ = some (.int .i64 t1) := H2.at_ 1 rfl
  clear H1 H2 h1 h2
  obtain ⟨q1, hq1⟩ : ∃ b, decide (((x0, x1) : Int × Int) = (f0, f1)) = b := ⟨_, rfl⟩
  obtain ⟨q2, hq2⟩ : ∃ b, decide (((x2, x3) : Int × Int) = (t0, t1)) = b := ⟨_, rfl⟩
  have hE1 := eql_lab _ _ _ _ _ hq1
  have hE2 := eql_lab _ _ _ _ _ hq2
  have HQ := Lib.hid (show b = (q1 && q2) from by rw [← hb, ← hq1, ← hq2, ← Bool.decide_and]; exact decide_eq_decide.2 Iff.rfl)
  clear hb hq1 hq2
  go_enter Tryz.func182, Tryz.ntmps182
  cases q1 with
  | false =>
    go_wp2
    go_ret
    exact ⟨by rw [HQ.out]; rfl, HB0.out⟩
  | true =>
    go_wp2
    go_ret
    exact ⟨by rw [HQ.out]; rfl, HB0.out⟩
set_option maxRecDepth 100000 in
set_option maxHeartbeats 1600000 in
theorem indexf_pairs {P : List D_Pair} {pa : Option Addr} {pc b1 b2 : Nat} {f0 f1 t0 t1 : Int} {W : World} (hP : RdSl R_Pair W W.heap.size P pa pc) (h1 : Blk W b1 67 #[.int .i64 f0, .int .i64 f1]) (h2 : Blk W b2 67 #[.int .i64 t0, .int .i64 t1]) :
    Calls Tryz.prog 181 #[.slice pa P.length pc, .func (.func 182) #[] #[.pointer (some ⟨b1, 0, none⟩), .pointer (some ⟨b2, 0, none⟩)]] W (IsI (ixP P (f0, f1) (t0, t1)) W) := by
  have hn : P.length ≤ 9223372036854775807 := by have h1 := hP.1; have h2 := hP.2.1; unfold maxLen at h2; omega
  have HP := Lib.hid hP
  have H1 := Lib.hid h1
  have H2 := Lib.hid h2
  clear hP h1 h2
  go_enter Tryz.func181, Tryz.ntmps181
  go_wp2
  go_loopw [8] (fun i wr => ∃ k : Nat, k ≤ P.length ∧ i = .int .i64 k ∧ Hid (∀ (q : Nat) y, q < k → P[q]? = some y → ¬ hitP (f0, f1) (t0, t1) y) ∧ Below W.heap.size W wr) (fun i _ => P.length - (intOf i).toNat)
  case atStart => exact ⟨0, Nat.zero_le _, rfl, Lib.hid fun q y h => absurd h (Nat.not_lt_zero _), Below.refl _ _⟩
  case round =>
    obtain ⟨k, hk, rfl, HA, hB⟩ := hrel
    have HB := Lib.hid hB
    have hsz := hB.size
    by_cases hlt : k < P.length
    · have hdl : decide ((k : Int) < (P.length : Int)) = true := decide_eq_true (by omega)
      obtain ⟨⟨⟨x0, x1⟩, ⟨x2, x3⟩, x4⟩, hx⟩ := el_some hlt
      have HX := Lib.hid hx
      obtain ⟨g, o, us, rfl, hg, hu, hr⟩ := (HP.out.below R_Pair_ok hB).at_ hx
      obtain rfl := rd_Pair hr
      have e0 : wr.cell? ⟨g, o + k * 5, none⟩ = some (.int .i64 x0) := by simpa [size_PairS, Nat.add_assoc] using hu 0 _ rfl
      have e1 : wr.cell? ⟨g, o + k * 5 + 1, none⟩ = some (.int .i64 x1) := by simpa [size_PairS, Nat.add_assoc] using hu 1 _ rfl
      have e2 : wr.cell? ⟨g, o + k * 5 + 2, none⟩ = some (.int .i64 x2) := by simpa [size_PairS, Nat.add_assoc] using hu 2 _ rfl
      have e3 : wr.cell? ⟨g, o + k * 5 + 3, none⟩ = some (.int .i64 x3) := by simpa [size_PairS, Nat.add_assoc] using hu 3 _ rfl
      have e4 : wr.cell? ⟨g, o + k * 5 + 4, none⟩ = some (.int .i64 x4) := by simpa [size_PairS, Nat.add_assoc] using hu 4 _ rfl
      have hi0 : (0 : Int) ≤ (k : Int) := Int.natCast_nonneg _
      have hi1 : (k : Int) < (P.length : Int) := by omega
      have eg : ∀ args w, (callFunc 182 args).run Tryz.prog w = .ok (.enter 182 args) w := enters_of Tryz.func182 (by kernel_rfl) rfl
      obtain ⟨b, hb⟩ : ∃ b, decide (hitP (f0, f1) (t0, t1) ((x0, x1), (x2, x3), x4)) = b := ⟨_, rfl⟩
      have HBb := Lib.hid hb
      clear hB hx hu hr hb
      go_wp2_with fail
      refine (hitp_v x0 x1 x2 x3 x4 f0 f1 t0 t1 b1 b2 HBb.out (H1.out.call HB.out) (H2.out.call HB.out)).mono ?_
      rintro e w1 ⟨rfl, hb⟩
      have HB1 := Lib.hid (HB.out.trans (hb.mono hsz))
      clear hb e0 e1 e2 e3 e4
      cases b with
      | true =>
        have HE := Lib.hid (ixP_hit HX.out (of_decide_eq_true HBb.out) HA.out)
        go_wp2
        go_ret
        exact ⟨by rw [HE.out]; rfl, HB1.out⟩
      | false =>
        have HA2 := Lib.hid (show ∀ (q : Nat) y, q < k + 1 → P[q]? = some y → ¬ hitP (f0, f1) (t0, t1) y from fun q y hq hy => by
          by_cases e : q = k
          · subst e; rw [HX.out] at hy; obtain rfl := Option.some.inj hy
            exact of_decide_eq_false HBb.out
          · exact HA.out q y (by omega) hy)
        go_wp2
        go_roundw
        case rel => exact ⟨k + 1, by omega, by go_num, HA2, HB1.out⟩
        case measure => simp [intOf]; omega
    · have hdl : decide ((k : Int) < (P.length : Int)) = false := decide_eq_false (by omega)
      have HE := Lib.hid (ixP_none (f := (f0, f1)) (t := (t0, t1)) fun q y hy => HA.out q y (by have := el_lt hy; omega) hy)
      clear hB
      go_wp2
      go_ret
      exact ⟨by rw [HE.out]; rfl, HB.out⟩
set_option maxRecDepth 100000 in
set_option maxHeartbeats 1600000 in
theorem pairix_impl {P : List D_Pair} {pa : Option Addr} {pc : Nat} {f0 f1 t0 t1 : Int} {W : World} (hP : RdSl R_Pair W W.heap.size P pa pc) :
    Calls Tryz.prog 145 #[.slice pa P.length pc, .agg #[.int .i64 f0, .int .i64 f1], .agg #[.int .i64 t0, .int .i64 t1]] W (IsI (ixP P (f0, f1) (t0, t1)) W) := by
  have hmf : ∀ (fn : Fn) (first cap : Array Value) (w : World), (Instr.makeFunc fn first cap).run Tryz.prog w = .ok (.func fn first cap) w := fun _ _ _ _ => rfl
  obtain ⟨w0, hw0⟩ : ∃ w, w = (W.alloc (.cells #[.int .i64 f0, .int .i64 f1] 67)).alloc (.cells #[.int .i64 t0, .int .i64 t1] 67) := ⟨_, rfl⟩
  have hb0 : Below W.heap.size W w0 := by rw [hw0]; exact ((Below.refl _ _).alloc (Nat.le_refl _) _).alloc (by simp) _
  have h1 : Blk w0 W.heap.size 67 #[.int .i64 f0, .int .i64 f1] := by rw [hw0]; exact (Blk.new _ _ _).alloc _
  have h2 : Blk w0 (W.heap.size + 1) 67 #[.int .i64 t0, .int .i64 t1] := by
    have h9 := Blk.new (W.alloc (.cells #[.int .i64 f0, .int .i64 f1] 67)) 67 #[.int .i64 t0, .int .i64 t1]
    simp only [World.size_alloc] at h9
    rw [hw0]; exact h9
  have HP := Lib.hid (rd_mv R_Pair_ok hP hb0)
  have H1 := Lib.hid h1
  have H2 := Lib.hid h2
  have HB0 := Lib.hid hb0
  have hz0 := hb0.size
  clear h1 h2 hb0 hP
  go_enter Tryz.func145, Tryz.ntmps145
  go_wp2_with fail
  rw [← hw0]
  clear hw0
  refine (indexf_pairs HP.out H1.out H2.out).mono ?_
  intro e w1 h
  obtain ⟨rfl, hb⟩ := isI_elim h
  have HB1 := Lib.hid (HB0.out.trans (hb.mono hz0))
  clear h hb
  go_wp2
  go_ret
  exact ⟨rfl, HB1.out⟩
end Go.Proofs.YtelhmacfljffhaaGreat.RepC
end
section
namespace Go.Proofs.YtelhmacfljffhaaGreat.RepC
open Go.RowKit RowC ValC SpanC KeptC CfC
set_option linter.unusedVariables false
set_option linter.unusedSimpArgs false
noncomputable def cfgB (C : List (List D_Label)) (P : List D_Pair) (Q : List D_Quota) (hf : Int) : Bool := by classical exact decide (CfgR C P Q hf)
theorem cfgB_iff {C : List (List D_Label)} {P : List D_Pair} {Q : List D_Quota} {hf : Int} : cfgB C P Q hf = true ↔ CfgR C P Q hf := by unfold cfgB; simp
set_option maxRecDepth 100000 in
set_option maxHeartbeats 1600000 in
theorem config_spec {C : List (List D_Label)} {P : List D_Pair} {Q : List D_Quota} {hf : Int} {ca pa qa : Option Addr} {cc pc qc : Nat} {W : World} (hC : RdSl (Sl R_Label) W W.heap.size C ca cc) (hP : RdSl R_Pair W W.heap.size P pa pc) (hQ : RdSl R_Quota W W.heap.size Q qa qc) :
    Calls Tryz.prog 23 #[.agg #[.slice ca C.length cc, .slice pa P.length pc, .slice qa Q.length qc, .int .i64 hf]] W (IsB (cfgB C P Q hf) W) := by
  obtain ⟨z, hz⟩ : ∃ z, cfgB C P Q hf = z := ⟨_, rfl⟩
  have HZ := Lib.hid (show z = true ↔ CfgR C P Q hf from by rw [← hz]; exact cfgB_iff)
  rw [hz]
  clear hz
  refine Calls.mono ?_ fun e w' h => resB_at HZ.out h
  obtain ⟨zh, hzh⟩ : ∃ z, isB hf 1 9 = z := ⟨_, rfl⟩
  have HH := Lib.hid hzh
  clear hzh HZ
  obtain ⟨M, hM⟩ : ∃ M, labsOf C = M := ⟨_, rfl⟩
  have HMr := Lib.hid (show ∀ a ∈ M, LabC.rP a.1 a.2 from by rw [← hM]; exact fun a ha => (mem_labs.1 ha).1)
  have HMs := Lib.hid (show M.Pairwise ltB from by rw [← hM]; exact labs_sorted C 32)
  have HM := Lib.hid hM
  clear hM
  obtain ⟨w0, hw0⟩ : ∃ w, w = W.alloc (.cells #[.slice ca C.length cc, .slice pa P.length pc, .slice qa Q.length qc, .int .i64 hf] 38) := ⟨_, rfl⟩
  have hb0 : Below W.heap.size W w0 := by rw [hw0]; exact (Below.refl _ _).alloc (Nat.le_refl _) _
  have x0 : Blk w0 (W.heap.size) 38 #[.slice ca C.length cc, .slice pa P.length pc, .slice qa Q.length qc, .int .i64 hf] := by
    have h9 := Blk.new W 38 #[.slice ca C.length cc, .slice pa P.length pc, .slice qa Q.length qc, .int .i64 hf]
    try simp only [World.size_alloc] at h9
    rw [hw0]; exact h9
  have X0 := Lib.hid x0
  have HC := Lib.hid (rd_mv (Sl_ok R_Label_ok) hC hb0)
  have HP := Lib.hid (rd_mv R_Pair_ok hP hb0)
  have HQ := Lib.hid (rd_mv R_Quota_ok hQ hb0)
  have HB0 := Lib.hid hb0
  have hz0 := hb0.size
  clear hb0 hC hP hQ x0
  go_enter Tryz.func23, Tryz.ntmps23
  have qX0_0 := X0.out.at_ 0 rfl
  have qX0_1 := X0.out.at_ 1 rfl
  have qX0_2 := X0.out.at_ 2 rfl
  have qX0_3 := X0.out.at_ 3 rfl
  go_wp2_with fail
  rw [← hw0]
  clear hw0
  refine (clear_spec HC.out).mono ?_
  intro e v1 h
  obtain ⟨z1, rfl, hz1, hb1⟩ := resB_elim h
  have HZ1 := Lib.hid hz1
  have HC := Lib.hid (rd_mv (Sl_ok R_Label_ok) HC.out hb1)
  have HP := Lib.hid (rd_mv R_Pair_ok HP.out hb1)
  have HQ := Lib.hid (rd_mv R_Quota_ok HQ.out hb1)
  have X0 := Lib.hid (X0.out.call hb1)
  have HB0 := Lib.hid (HB0.out.trans (hb1.mono HB0.out.size))
  clear h hz1 hb1 qX0_0 qX0_1 qX0_2 qX0_3
  have qX0_0 := X0.out.at_ 0 rfl
  have qX0_1 := X0.out.at_ 1 rfl
  have qX0_2 := X0.out.at_ 2 rfl
  have qX0_3 := X0.out.at_ 3 rfl
  cases z1 with
  | false =>
    have HN := Lib.hid (show ¬ CfgR C P Q hf from fun h => by have := HZ1.out.2 (h.1); cases this)
    go_wp2
    go_ret
    exact resB_no HN.out HB0.out
  | true =>
  have HY1 := Lib.hid (HZ1.out.1 rfl)
  go_wp2_with fail
  refine (is_at _ _ _ HH.out _).mono ?_
  rintro e w9 ⟨rfl, rfl⟩
  cases zh with
  | false =>
    have HN := Lib.hid (show ¬ CfgR C P Q hf from fun h => by have := h.2.1; rw [HH.out] at this; cases this)
    go_wp2
    go_ret
    exact resB_no HN.out HB0.out
  | true =>
  go_wp2_with fail
  have hlb := labs_spec HC.out
  rw [HM.out] at hlb
  refine hlb.mono ?_
  intro e v2 h
  obtain ⟨la, lc, rfl, ho, hb2⟩ := newS_elim h
  have HL := Lib.hid (ho.rd R_Label_ok (B := v2.heap.size) fun k hk => hk.2)
  have HC := Lib.hid (rd_mv (Sl_ok R_Label_ok) HC.out hb2)
  have HP := Lib.hid (rd_mv R_Pair_ok HP.out hb2)
  have HQ := Lib.hid (rd_mv R_Quota_ok HQ.out hb2)
  have X0 := Lib.hid (X0.out.call hb2)
  have HB0 := Lib.hid (HB0.out.trans (hb2.mono HB0.out.size))
  clear h ho hlb hb2 qX0_0 qX0_1 qX0_2 qX0_3
  have qX0_0 := X0.out.at_ 0 rfl
  have qX0_1 := X0.out.at_ 1 rfl
  have qX0_2 := X0.out.at_ 2 rfl
  have qX0_3 := X0.out.at_ 3 rfl
  by_cases h8 : M.length ≤ 8
  rotate_left
  · have hd : decide ((M.length : Int) ≤ 8) = false := decide_eq_false (by omega)
    have hd' : decide (M.length ≤ 8) = false := decide_eq_false h8
    have HN := Lib.hid (show ¬ CfgR C P Q hf from fun h => h8 (by rw [← HM.out]; exact h.2.2.1))
    go_wp2
    go_ret
    exact resB_no HN.out HB0.out
  have hd : decide ((M.length : Int) ≤ 8) = true := decide_eq_true (by omega)
  have hd' : decide (M.length ≤ 8) = true := decide_eq_true h8
  go_wp2_with fail
  refine (pairs_spec HL.out HP.out).mono ?_
  intro e v3 h
  obtain ⟨z3, rfl, hz3, hb3⟩ := resB_elim h
  have HZ3 := Lib.hid hz3
  have HC := Lib.hid (rd_mv (Sl_ok R_Label_ok) HC.out hb3)
  have HP := Lib.hid (rd_mv R_Pair_ok HP.out hb3)
  have HQ := Lib.hid (rd_mv R_Quota_ok HQ.out hb3)
  have HL := Lib.hid (rd_mv R_Label_ok HL.out hb3)
  have X0 := Lib.hid (X0.out.call hb3)
  have HB0 := Lib.hid (HB0.out.trans (hb3.mono HB0.out.size))
  clear h hz3 hb3 qX0_0 qX0_1 qX0_2 qX0_3
  have qX0_0 := X0.out.at_ 0 rfl
  have qX0_1 := X0.out.at_ 1 rfl
  have qX0_2 := X0.out.at_ 2 rfl
  have qX0_3 := X0.out.at_ 3 rfl
  cases z3 with
  | false =>
    have HN := Lib.hid (show ¬ CfgR C P Q hf from fun h => by have := HZ3.out.2 (by rw [← HM.out]; exact h.2.2.2.1); cases this)
    go_wp2
    go_ret
    exact resB_no HN.out HB0.out
  | true =>
  have HY3 := Lib.hid (HZ3.out.1 rfl)
  go_wp2_with fail
  refine (quotas_spec HMr.out HMs.out h8 HL.out HQ.out).mono ?_
  intro e v4 h
  obtain ⟨z4, rfl, hz4, hb4⟩ := resB_elim h
  have HZ4 := Lib.hid hz4
  have HC := Lib.hid (rd_mv (Sl_ok R_Label_ok) HC.out hb4)
  have HP := Lib.hid (rd_mv R_Pair_ok HP.out hb4)
  have HQ := Lib.hid (rd_mv R_Quota_ok HQ.out hb4)
  have HL := Lib.hid (rd_mv R_Label_ok HL.out hb4)
  have X0 := Lib.hid (X0.out.call hb4)
  have HB0 := Lib.hid (HB0.out.trans (hb4.mono HB0.out.size))
  clear h hz4 hb4 qX0_0 qX0_1 qX0_2 qX0_3
  have qX0_0 := X0.out.at_ 0 rfl
  have qX0_1 := X0.out.at_ 1 rfl
  have qX0_2 := X0.out.at_ 2 rfl
  have qX0_3 := X0.out.at_ 3 rfl
  cases z4 with
  | false =>
    have HN := Lib.hid (show ¬ CfgR C P Q hf from fun h => by have := HZ4.out.2 (by rw [← HM.out]; exact h.2.2.2.2); cases this)
    go_wp2
    go_ret
    exact resB_no HN.out HB0.out
  | true =>
  have HY4 := Lib.hid (HZ4.out.1 rfl)
  have HY := Lib.hid (show CfgR C P Q hf from ⟨HY1.out, HH.out, by rw [HM.out]; exact h8, by rw [HM.out]; exact HY3.out, by rw [HM.out]; exact HY4.out⟩)
  go_wp2
  go_ret
  exact resB_yes HY.out HB0.out
end Go.Proofs.YtelhmacfljffhaaGreat.RepC
end
section
namespace Go.Proofs.YtelhmacfljffhaaGreat.RepC
open Go.RowKit RowC ValC
set_option linter.unusedVariables false
set_option linter.unusedSimpArgs false
set_option maxRecDepth 100000
section
variable {α : Type} {E : Rp α} {f : α → List Value} {w w' : World} {lo : Nat} {T : TypeId} {v : Value} {L : List α}
theorem infoSpan : ∃ i, Tryz.prog.info? 172 = some i ∧ i.zero = some (.agg #[.int .i64 0, .int .i64 0]) ∧ i.size = 2 ∧ i.bytes = 16 := infoOf (by kernel_rfl)
theorem infoNode : ∃ i, Tryz.prog.info? 120 = some i ∧ i.zero = some (.agg #[.int .i64 0, .slice none 0 0]) ∧ i.size = 2 ∧ i.bytes = 32 := infoOf (by kernel_rfl)
theorem flat_Span : Flat R_Span (fun x => [.int .i64 x.1, .int .i64 x.2]) := ⟨fun {W B x us} h => by obtain ⟨a, b⟩ := x; exact rd_Span h, fun W S x => by obtain ⟨a, b⟩ := x; exact mkow_Span⟩
abbrev XRow (w : World) (lo : Nat) (v : Value) (L : List D_Span) : Prop := FRow R_Span (fun x => [.int .i64 x.1, .int .i64 x.2]) w lo 172 v L
theorem XRow.more {w : World} {lo : Nat} {v : Value} {L M : List D_Span} {a : Option Addr} {cap : Nat} (h : XRow w lo v L) (hM : RdSl R_Span w w.heap.size M a cap) (hlo : lo ≤ w.heap.size) (hL : L.length + M.length ≤ 8796093022208) :
    ∃ a' c' w', (Builtin.append_ #[118, 118] 118 #[v, .slice a M.length cap]).run Tryz.prog w = .ok (.slice a' (L ++ M).length c') w' ∧ XRow w' lo (.slice a' (L ++ M).length c') (L ++ M) ∧ Below lo w w' := by
  obtain ⟨i, hi', hz, hs, hby⟩ := infoSpan
  exact FRow.more R_Span_ok flat_Span h Tryz.underlying118 hi' hz hs hby rfl (by decide) hM hlo (by unfold maxLen; omega) (by omega)
end
end Go.Proofs.YtelhmacfljffhaaGreat.RepC
end
section
namespace Go.Proofs.YtelhmacfljffhaaGreat.RepC
open Go.RowKit RowC ValC
set_option linter.unusedVariables false
set_option linter.unusedSimpArgs false
set_option maxRecDepth 100000
theorem app_node {w w' : World} {lo : Nat} {v : Value} {L : List D_Node} (h : ARow R_Node w lo 120 v L) (hb : Below w.heap.size w w') {st : Int} {M : List D_Span} {a : Option Addr} {c blk : Nat} (hc : Blk w' blk 120 #[.int .i64 st, .slice a M.length c]) (hM : OwSl R_Span w' (Rg w.heap.size w'.heap.size) M a c) (hL : L.length ≤ 4096) :
    ∃ a' c' w2, (Builtin.append_ #[39, 39] 39 #[v, .slice (some ⟨blk, 0, none⟩) 1 1]).run Tryz.prog w' = .ok (.slice a' (L ++ [(st, M)]).length c') w2 ∧ ARow R_Node w2 lo 120 (.slice a' (L ++ [(st, M)]).length c') (L ++ [(st, M)]) ∧ Below lo w' w2 := by
  obtain ⟨i, hi', hz, hs, hby⟩ := infoNode
  exact h.app R_Node_ok hb Tryz.underlying39 hi' hz hs hby rfl (by decide) (us := [.int .i64 st, .slice a M.length c]) (fun j u hj => hc.at_ j (by simpa using hj)) (mkow_Node (fun k hk => hk) hM) (by unfold maxLen; omega) (by omega)
end Go.Proofs.YtelhmacfljffhaaGreat.RepC
end
section
namespace Go.Proofs.YtelhmacfljffhaaGreat.SpanC
open Go.RowKit KeptC
def zeros (n : Nat) : Array Value := madeCells #[.int .i64 0, .int .i64 0] (n * 2)
structure Fill (w : World) (n : Nat) (f : Nat → Int × Int) (k : Nat) (W : World) : Prop where
  cells : ∀ j, j < n → ∃ u v, W.cell? ⟨w.heap.size, j * 2, none⟩ = some u ∧ W.cell? ⟨w.heap.size, j * 2 + 1, none⟩ = some v ∧ (j < k → u = .int .i64 (f j).1 ∧ v = .int .i64 (f j).2)
  soft : ∀ j, W.frozen? ⟨w.heap.size, j, none⟩ = false
  below : Below w.heap.size w W
  lt : w.heap.size < W.heap.size
theorem Fill.call {w W W1 : World} {n k : Nat} {f : Nat → Int × Int} (h : Fill w n f k W) (hb : Below W.heap.size W W1) : Fill w n f k W1 := by
  refine ⟨fun j hj => ?_, fun j => (hb.frozen (p := ⟨w.heap.size, j, none⟩) h.lt).trans (h.soft j), h.below.trans (hb.mono (Nat.le_of_lt h.lt)), Nat.lt_of_lt_of_le h.lt hb.size⟩
  obtain ⟨u, v, hu, hv, hk⟩ := h.cells j hj
  exact ⟨u, v, (hb.cell (p := ⟨w.heap.size, j * 2, none⟩) h.lt).trans hu, (hb.cell (p := ⟨w.heap.size, j * 2 + 1, none⟩) h.lt).trans hv, hk⟩
theorem Fill.put {w W : World} {n k : Nat} {f : Nat → Int × Int} (h : Fill w n f k W) (hk : k < n) :
    Fill w n f (k + 1) ((W.setCell ⟨w.heap.size, k * 2, none⟩ (.int .i64 (f k).1)).setCell ⟨w.heap.size, k * 2 + 1, none⟩ (.int .i64 (f k).2)) := by
  have ne : ∀ a b : Nat, a ≠ b → (⟨w.heap.size, a, none⟩ : Addr) ≠ ⟨w.heap.size, b, none⟩ := fun a b hab e => hab (by injection e)
  obtain ⟨u0, v0, hu0, hv0, _⟩ := h.cells k hk
  refine ⟨fun j hj => ?_, fun j => by simpa using h.soft j, (h.below.setCell (Nat.le_refl _) _).setCell (Nat.le_refl _) _, by simpa using h.lt⟩
  by_cases e : j = k
  · subst e
    refine ⟨.int .i64 (f j).1, .int .i64 (f j).2, ?_, ?_, fun _ => ⟨rfl, rfl⟩⟩
    · rw [World.cell?_setCell_other _ _ _ _ (ne _ _ (by omega)), World.cell?_setCell_same' _ _ _ (by rw [hu0]; rfl)]
    · rw [World.cell?_setCell_same' _ _ _ (by rw [World.cell?_setCell_other _ _ _ _ (ne _ _ (by omega)), hv0]; rfl)]
  · obtain ⟨u, v, hu, hv, hlt⟩ := h.cells j hj
    refine ⟨u, v, ?_, ?_, fun hj' => hlt (by omega)⟩
    · rw [World.cell?_setCell_other _ _ _ _ (ne _ _ (by omega)), World.cell?_setCell_other _ _ _ _ (ne _ _ (by omega))]; exact hu
    · rw [World.cell?_setCell_other _ _ _ _ (ne _ _ (by omega)), World.cell?_setCell_other _ _ _ _ (ne _ _ (by omega))]; exact hv
theorem zeros_size (n : Nat) : (zeros n).size = n * 2 := by unfold zeros; simp [madeCells]
theorem Fill.new (w : World) (n : Nat) (f : Nat → Int × Int) : Fill w n f 0 (w.alloc (.cells (zeros n) 172)) := by
  refine ⟨fun j hj => ?_, fun j => by simp, (Below.refl _ _).alloc (Nat.le_refl _) _, by simp⟩
  have hz := zeros_size n
  refine ⟨(zeros n)[j * 2]'(by omega), (zeros n)[j * 2 + 1]'(by omega), ?_, ?_, fun h => absurd h (Nat.not_lt_zero _)⟩
  · simp [World.cell?_alloc_new, show j * 2 < (zeros n).size by omega]
  · simp [World.cell?_alloc_new, show j * 2 + 1 < (zeros n).size by omega]
def PRow (w : World) (b o n : Nat) (f : Nat → Int × Int) : Prop := ∀ i, i < n → w.cell? ⟨b, o + i * 2, none⟩ = some (.int .i64 (f i).1) ∧ w.cell? ⟨b, o + i * 2 + 1, none⟩ = some (.int .i64 (f i).2)
theorem PRow.below {w W : World} {b o n B : Nat} {f : Nat → Int × Int} (h : PRow w b o n f) (hb : Below B w W) (hB : b < B) : PRow W b o n f := fun i hi =>
  ⟨(hb.cell (p := ⟨b, o + i * 2, none⟩) hB).trans (h i hi).1, (hb.cell (p := ⟨b, o + i * 2 + 1, none⟩) hB).trans (h i hi).2⟩
theorem Fill.row {w W : World} {n : Nat} {f : Nat → Int × Int} (h : Fill w n f n W) : PRow W w.heap.size 0 n f := fun i hi => by
  obtain ⟨u, v, hu, hv, he⟩ := h.cells i hi
  obtain ⟨rfl, rfl⟩ := he hi
  exact ⟨by simpa using hu, by simpa using hv⟩
end Go.Proofs.YtelhmacfljffhaaGreat.SpanC
end
section
namespace Go.Proofs.YtelhmacfljffhaaGreat.SpanC
open Go.RowKit KeptC
set_option linter.unusedSimpArgs false
def PA (W : World) (qa : Option Addr) (n : Nat) (f : Nat → Int × Int) : Prop := ∀ i, i < n → ∃ g o, qa = some ⟨g, o, none⟩ ∧ g < W.heap.size ∧ W.cell? ⟨g, o + i * 2, none⟩ = some (.int .i64 (f i).1) ∧ W.cell? ⟨g, o + i * 2 + 1, none⟩ = some (.int .i64 (f i).2)
theorem PA.below {W W' : World} {qa : Option Addr} {n B : Nat} {f : Nat → Int × Int} (h : PA W qa n f) (hb : Below B W W') (hB : W.heap.size ≤ B) : PA W' qa n f := fun i hi => by
  obtain ⟨g, o, e, hg, h1, h2⟩ := h i hi
  exact ⟨g, o, e, Nat.lt_of_lt_of_le hg hb.size, (hb.cell (p := ⟨g, _, none⟩) (Nat.lt_of_lt_of_le hg hB)).trans h1, (hb.cell (p := ⟨g, _, none⟩) (Nat.lt_of_lt_of_le hg hB)).trans h2⟩
theorem PRow.pa {W : World} {g o n : Nat} {f : Nat → Int × Int} (h : PRow W g o n f) (hg : g < W.heap.size) : PA W (some ⟨g, o, none⟩) n f := fun i hi => ⟨g, o, rfl, hg, (h i hi).1, (h i hi).2⟩
theorem PA.row {W : World} {g o n : Nat} {f : Nat → Int × Int} (h : PA W (some ⟨g, o, none⟩) n f) : PRow W g o n f := fun i hi => by
  obtain ⟨g', o', e, _, h1, h2⟩ := h i hi
  cases e
  exact ⟨h1, h2⟩
end Go.Proofs.YtelhmacfljffhaaGreat.SpanC
end
section
namespace Go.Proofs.YtelhmacfljffhaaGreat.RepC
open Go.RowKit RowC ValC SpanC KeptC
set_option linter.unusedVariables false
set_option linter.unusedSimpArgs false
def newV (n : Int) : List D_Node := if isB n 1 6 = true then List.replicate n.toNat (1, []) else []
end Go.Proofs.YtelhmacfljffhaaGreat.RepC
end
section
namespace Go.Proofs.YtelhmacfljffhaaGreat.RepC
open Go.RowKit RowC ValC SpanC KeptC
set_option linter.unusedVariables false
set_option linter.unusedSimpArgs false
structure CopN (w W : World) (L : List D_Node) (g k : Nat) (Sf : Nat → Nat → Prop) : Prop where
  el : ∀ i x, L[i]? = some x → ∃ a c, W.cell? ⟨g, i * 2, none⟩ = some (.int .i64 x.1) ∧ W.cell? ⟨g, i * 2 + 1, none⟩ = some (.slice a x.2.length c) ∧ (i < k → OwSl R_Span W (Sf i) x.2 a c) ∧ (k ≤ i → RdSl R_Span W w.heap.size x.2 a c)
  soft : ∀ j, W.frozen? ⟨g, j, none⟩ = false
  sub : ∀ i q, Sf i q → g < q ∧ q < W.heap.size ∧ i < k
  dis : ∀ i j q, i < j → Sf i q → ¬ Sf j q
  base : w.heap.size ≤ g
  lt : g < W.heap.size
  below : Below w.heap.size w W
theorem CopN.call {w W W' : World} {L : List D_Node} {g k : Nat} {Sf : Nat → Nat → Prop} (h : CopN w W L g k Sf) (hb : Below W.heap.size W W') : CopN w W' L g k Sf := by
  refine ⟨fun i x hx => ?_, fun j => (hb.frozen (p := ⟨g, j, none⟩) h.lt).trans (h.soft j), fun i q hq => by have := h.sub i q hq; have := hb.size; omega, h.dis, h.base, Nat.lt_of_lt_of_le h.lt hb.size, h.below.trans (hb.mono h.below.size)⟩
  obtain ⟨a, c, h1, h2, h3, h4⟩ := h.el i x hx
  exact ⟨a, c, (hb.cell (p := ⟨g, i * 2, none⟩) h.lt).trans h1, (hb.cell (p := ⟨g, i * 2 + 1, none⟩) h.lt).trans h2, fun hi => (h3 hi).keep R_Span_ok fun q hq => hb.block q (h.sub i q hq).2.1, fun hi => (h4 hi).below R_Span_ok (hb.mono h.below.size)⟩
theorem CopN.put {w W W1 : World} {L : List D_Node} {g k : Nat} {Sf : Nat → Nat → Prop} {x : D_Node} {a : Option Addr} {c : Nat} (h : CopN w W L g k Sf) (hx : L[k]? = some x) (hb : Below W.heap.size W W1) (hr : OwSl R_Span W1 (Rg W.heap.size W1.heap.size) x.2 a c) :
    CopN w (W1.setCell ⟨g, k * 2 + 1, none⟩ (.slice a x.2.length c)) L g (k + 1) (fun i q => if i = k then Rg W.heap.size W1.heap.size q else Sf i q) := by
  have hgl := h.lt
  have hsz := hb.size
  have hbs := h.base
  have hws := h.below.size
  obtain ⟨a0, c0, g1, g2, _, _⟩ := h.el k x hx
  have hk1 : W1.cell? ⟨g, k * 2 + 1, none⟩ = some (.slice a0 x.2.length c0) := (hb.cell (p := ⟨g, k * 2 + 1, none⟩) hgl).trans g2
  have hset : ∀ q, q ≠ g → (W1.setCell ⟨g, k * 2 + 1, none⟩ (.slice a x.2.length c)).heap[q]? = W1.heap[q]? := fun q hq => Below.heap_setCell W1 ⟨g, k * 2 + 1, none⟩ _ q hq
  have hss : (W1.setCell ⟨g, k * 2 + 1, none⟩ (.slice a x.2.length c)).heap.size = W1.heap.size := by simp
  refine ⟨fun i y hy => ?_, fun j => ?_, fun i q hq => ?_, fun i j q hij hi => ?_, h.base, by rw [hss]; omega, (h.below.trans (hb.mono hws)).setCell (by exact hbs) _⟩
  · by_cases e : i = k
    · subst e
      rw [hx] at hy
      cases hy
      refine ⟨a, c, ?_, World.cell?_setCell_same _ _ _ hk1, fun _ => ?_, fun hi => absurd hi (by omega)⟩
      · rw [World.cell?_setCell_other _ _ _ _ (fun e => by injection e with _ e2; omega)]
        exact (hb.cell (p := ⟨g, i * 2, none⟩) hgl).trans g1
      · simp only [if_true]
        exact hr.keep R_Span_ok fun q hq => hset q (by unfold Rg at hq; omega)
    · obtain ⟨a', c', h1, h2, h3, h4⟩ := h.el i y hy
      refine ⟨a', c', ?_, ?_, fun hi => ?_, fun hi => ?_⟩
      · rw [World.cell?_setCell_other _ _ _ _ (fun e => by injection e with _ e2; omega)]
        exact (hb.cell (p := ⟨g, i * 2, none⟩) hgl).trans h1
      · rw [World.cell?_setCell_other _ _ _ _ (fun e => by injection e with _ e2; omega)]
        exact (hb.cell (p := ⟨g, i * 2 + 1, none⟩) hgl).trans h2
      · simp only [e, if_false]
        exact ((h3 (by omega)).keep R_Span_ok fun q hq => hb.block q (h.sub i q hq).2.1).keep R_Span_ok fun q hq => hset q (by have := h.sub i q hq; omega)
      · exact (h4 (by omega)).below R_Span_ok ((hb.mono hws).trans ((Below.refl _ _).setCell (by exact hbs) _))
  · simp only [World.frozen?_setCell]
    exact (hb.frozen (p := ⟨g, j, none⟩) hgl).trans (h.soft j)
  · rw [hss]
    by_cases e : i = k
    · simp only [e, if_true] at hq
      unfold Rg at hq
      omega
    · simp only [e, if_false] at hq
      have := h.sub i q hq
      omega
  · by_cases e1 : i = k
    · subst e1
      simp only [if_true] at hi
      have e2 : j ≠ i := by omega
      simp only [e2, if_false]
      intro hj
      have := (h.sub j q hj).2.2
      omega
    · simp only [e1, if_false] at hi
      by_cases e2 : j = k
      · simp only [e2, if_true]
        have := (h.sub i q hi).2.1
        unfold Rg
        omega
      · simp only [e2, if_false]
        exact h.dis i j q hij hi
theorem CopN.done {w W : World} {L : List D_Node} {g : Nat} {Sf : Nat → Nat → Prop} (h : CopN w W L g L.length Sf) : Row R_Node W (Rg w.heap.size W.heap.size) L g Sf := by
  refine ⟨⟨h.base, h.lt⟩, h.soft, fun i k hk => ⟨⟨by have := (h.sub i k hk).1; have := h.base; omega, (h.sub i k hk).2.1⟩, by have := (h.sub i k hk).1; omega⟩, h.dis, fun i x hx => ?_⟩
  obtain ⟨a, c, h1, h2, h3, _⟩ := h.el i x hx
  refine ⟨[.int .i64 x.1, .slice a x.2.length c], fun j d hd => ?_, mkow_Node (fun k hk => hk) (h3 (el_lt hx))⟩
  rw [size_NodeS]
  match j, hd with
  | 0, hd => simp at hd; subst hd; simpa using h1
  | 1, hd => simp at hd; subst hd; exact h2
  | j + 2, hd => simp at hd
theorem Row.put {α : Type} {E : Rp α} (hE : Ok E) {W W' : World} {S T : Nat → Prop} {L : List α} {g i : Nat} {Sf : Nat → Nat → Prop} {x : α} {us : List Value} (h : Row E W S L g Sf) (hS : ∀ k, S k → k < W.heap.size) (hU : Upd W W' g (i * E.size) ((i + 1) * E.size) (Sf i))
    (hT : ∀ k, T k → W.heap.size ≤ k) (hc : CellsAt W' g (i * E.size) us) (hr : E.ow W' T x us) : Row E W' (fun k => S k ∨ T k) (L.set i x) g (fun j k => if j = i then T k else Sf j k) := by
  have hg := hS g h.own
  refine ⟨.inl h.own, fun j => (hU.soft j).trans (h.soft j), fun j k hk => ?_, fun j l k hjl hj => ?_, fun j y hy => ?_⟩
  · by_cases e : j = i
    · simp only [e, if_true] at hk; exact ⟨.inr hk, by have := hT k hk; omega⟩
    · simp only [e, if_false] at hk; exact ⟨.inl (h.sub j k hk).1, (h.sub j k hk).2⟩
  · by_cases e : j = i
    · have e2 : l ≠ i := by omega
      simp only [e, if_true] at hj
      simp only [e2, if_false]
      exact fun hl => by have := hT k hj; have := hS k (h.sub l k hl).1; omega
    · simp only [e, if_false] at hj
      by_cases e2 : l = i
      · simp only [e2, if_true]
        exact fun hl => by have := hT k hl; have := hS k (h.sub j k hj).1; omega
      · simp only [e2, if_false]
        exact h.dis j l k hjl hj
  · by_cases e : i = j
    · subst e
      rw [List.getElem?_set] at hy
      split at hy
      · split at hy
        · injection hy with hy
          subst hy
          exact ⟨us, hc, by simpa using hr⟩
        · cases hy
      · exact absurd rfl ‹_›
    · rw [List.getElem?_set_ne e] at hy
      obtain ⟨vs, hv, hw⟩ := h.el j y hy
      have e' : j ≠ i := fun q => e q.symm
      refine ⟨vs, fun p c hp => ?_, ?_⟩
      · have hl := (List.getElem?_eq_some_iff.1 hp).1
        rw [hE.ow_len hw] at hl
        rw [hU.cells _ (mul_lt_el hl e)]
        exact hv p c hp
      · simp only [e', if_false]
        refine hE.ow_keep hw fun k hk => hU.block k (hS k (h.sub j k hk).1) (h.sub j k hk).2 (fun hi => ?_)
        rcases Nat.lt_or_gt_of_ne e with e2 | e2
        · exact h.dis i j k e2 hi hk
        · exact h.dis j i k e2 hk hi
end Go.Proofs.YtelhmacfljffhaaGreat.RepC
end
section
namespace Go.Proofs.YtelhmacfljffhaaGreat.RepC
open Go.RowKit RowC ValC SpanC KeptC
set_option linter.unusedVariables false
set_option linter.unusedSimpArgs false
theorem newV_no {n : Int} (h : isB n 1 6 = false) : newV n = [] := by unfold newV; rw [h]; rfl
theorem newV_yes {n : Int} (h : isB n 1 6 = true) : newV n = List.replicate n.toNat (1, []) := by unfold newV; rw [h]; rfl
set_option maxRecDepth 100000 in
set_option maxHeartbeats 1600000 in
theorem new_spec (n : Int) (W : World) : Calls Tryz.prog 50 #[.int .i64 n] W (NewS R_Node (newV n) W) := by
  obtain ⟨w0, hw0⟩ : ∃ w, w = W.alloc (.cells #[] 120) := ⟨_, rfl⟩
  have hb0 : Below W.heap.size W w0 := by rw [hw0]; exact (Below.refl _ _).alloc (Nat.le_refl _) _
  have HR0 := Lib.hid (show ARow R_Node w0 W.heap.size 120 (.slice (some ⟨W.heap.size, 0, none⟩) 0 0) [] from by rw [hw0]; exact ARow.made _ _ _)
  have HB0 := Lib.hid hb0
  have hz0 := hb0.size
  clear hb0
  have hs := fun W => is_spec n 1 6 W
  cases hq : isB n 1 6 with
  | false =>
    rw [newV_no hq]
    rw [hq] at hs
    clear hq
    go_enter Tryz.func50, Tryz.ntmps50
    go_wp2_with (go_at_call 67; refine (hs _).mono ?_; rintro e w' ⟨rfl, rfl⟩)
    rw [← hw0]
    go_ret
    exact HR0.out.news R_Node_ok (Nat.le_refl _) HB0.out
  | true =>
    have hn := (isB_iff _ _ _).1 hq
    have HN := Lib.hid (newV_yes hq)
    rw [hq] at hs
    obtain ⟨m, rfl⟩ : ∃ m : Nat, n = m := ⟨n.toNat, by omega⟩
    have hm : m ≤ 6 := by omega
    clear hq hn
    go_enter Tryz.func50, Tryz.ntmps50
    go_wp2_with (first | (go_at_call 67; refine (hs _).mono ?_; rintro e w' ⟨rfl, rfl⟩) | fail)
    rw [← hw0]
    clear hw0
    go_loopw [0, 3] (fun i v wr => ∃ k : Nat, k ≤ m ∧ i = .int .i64 ((m - k : Nat) : Int) ∧ Hid (ARow R_Node wr W.heap.size 120 v (List.replicate k (1, []))) ∧ Below W.heap.size W wr) (fun i _ _ => (intOf i).toNat)
    case atStart => exact ⟨0, Nat.zero_le _, rfl, HR0, HB0.out⟩
    case round =>
      obtain ⟨k, hk, rfl, HR, hB⟩ := hrel
      have HB := Lib.hid hB
      have hsz := hB.size
      obtain ⟨va, vc, rfl⟩ := HR.out.isSlice
      clear hB
      by_cases hlt : k < m
      · have hd : decide ((0 : Int) < ((m - k : Nat) : Int)) = true := decide_eq_true (by omega)
        obtain ⟨w1, hw1⟩ : ∃ w, w = wr.alloc (.cells #[.int .i64 1, .slice none 0 0] 120) := ⟨_, rfl⟩
        have hb1 : Below wr.heap.size wr w1 := by rw [hw1]; exact (Below.refl _ _).alloc (Nat.le_refl _) _
        have hbl : Blk w1 wr.heap.size 120 #[.int .i64 1, .slice none 0 0] := by rw [hw1]; exact Blk.new _ _ _
        obtain ⟨a', c', w2, hrun, hrow, hb2⟩ := app_node HR.out hb1 (M := []) hbl ⟨Nat.le_refl _, by unfold maxLen; omega, fun h => absurd h (Nat.lt_irrefl _)⟩ (by simp; omega)
        have HRun := Lib.hid hrun
        rw [hw1] at HRun
        have HR2 := Lib.hid (show ARow R_Node w2 W.heap.size 120 (.slice a' (List.replicate k (1, []) ++ [((1 : Int), ([] : List D_Span))]).length c') (List.replicate (k + 1) (1, [])) from by rw [List.replicate_succ']; exact hrow)
        have HB2 := Lib.hid ((HB.out.trans (hb1.mono hsz)).trans hb2)
        clear hrun hrow hb1 hb2 hbl hw1
        have hwr : IntKind.i64.wrap (((m - k : Nat) : Int) - 1) = ((m - (k + 1) : Nat) : Int) := by rw [show ((m - k : Nat) : Int) - 1 = ((m - (k + 1) : Nat) : Int) by omega]; exact IntWalk.i64_in _ (by omega)
        go_wp2_with (at_builtin; refine wpList_app rfl (.tmp 13) (.tmp 15) 39 rfl rfl rfl HRun.out ?_)
        go_roundw
        case rel => exact ⟨k + 1, by omega, by first | rfl | go_num, Lib.hid (by simpa using HR2.out), HB2.out⟩
        case measure => simp [intOf]; omega
      · have hd : decide ((0 : Int) < ((m - k : Nat) : Int)) = false := decide_eq_false (by omega)
        obtain rfl : k = m := by omega
        go_wp2
        go_ret
        have hz := HN.out
        rw [Int.toNat_natCast] at hz
        rw [hz]
        exact HR.out.news R_Node_ok (Nat.le_refl _) HB.out
structure NewM (w w' : World) (m k : Nat) : Prop where
  el : ∀ i, i < m → w'.cell? ⟨w.heap.size, i * 2, none⟩ = some (.int .i64 (if i < k then 1 else 0)) ∧ w'.cell? ⟨w.heap.size, i * 2 + 1, none⟩ = some (.slice none 0 0)
  soft : ∀ j, w'.frozen? ⟨w.heap.size, j, none⟩ = false
  lt : w.heap.size < w'.heap.size
  below : Below w.heap.size w w'
theorem NewM.new (w : World) (m : Nat) (hm : m ≤ 6) : NewM w (w.alloc (.cells (zs_NodeS m) 120)) m 0 := by
  refine ⟨fun i hi => ?_, fun j => by simp, by simp, (Below.refl _ _).alloc (Nat.le_refl _) _⟩
  have hb := Blk.new w 120 (zs_NodeS m)
  have e : ∀ j, j < m * 2 → (zs_NodeS m)[j]? = some (if j % 2 = 0 then .int .i64 0 else .slice none 0 0) := fun j hj => by
    unfold zs_NodeS madeCells
    rcases Nat.mod_two_eq_zero_or_one j with h | h <;> simp [hj, h]
  rw [if_neg (Nat.not_lt_zero _)]
  exact ⟨hb.at_ (i * 2) (by rw [e _ (by omega), if_pos (by omega)]), hb.at_ (i * 2 + 1) (by rw [e _ (by omega), if_neg (by omega)])⟩
theorem NewM.put {w w' : World} {m k : Nat} (h : NewM w w' m k) (hk : k < m) : NewM w (w'.setCell ⟨w.heap.size, k * 2, none⟩ (.int .i64 1)) m (k + 1) := by
  refine ⟨fun i hi => ?_, fun j => by simp only [World.frozen?_setCell]; exact h.soft j, by simp [h.lt], h.below.setCell (Nat.le_refl _) _⟩
  obtain ⟨h1, h2⟩ := h.el i hi
  refine ⟨?_, ?_⟩
  · by_cases e : i = k
    · subst e
      rw [if_pos (by omega)]
      exact World.cell?_setCell_same _ _ _ h1
    · rw [World.cell?_setCell_other _ _ _ _ (fun q => by injection q with _ q2; omega), h1]
      by_cases e2 : i < k
      · rw [if_pos e2, if_pos (by omega)]
      · rw [if_neg e2, if_neg (by omega)]
  · rw [World.cell?_setCell_other _ _ _ _ (fun q => by injection q with _ q2; omega)]
    exact h2
theorem NewM.done {w w' : World} {m : Nat} (h : NewM w w' m m) (hm : m ≤ 6) : NewS R_Node (List.replicate m (1, [])) w (.returned (.slice (some ⟨w.heap.size, 0, none⟩) m m)) w' := by
  refine ⟨some ⟨w.heap.size, 0, none⟩, m, by simp, ⟨by simp, by unfold maxLen; omega, fun _ => ⟨w.heap.size, fun _ _ => False, rfl, ⟨Nat.le_refl _, h.lt⟩, h.soft, fun i k h => h.elim, fun i j k _ h => h.elim, fun i x hx => ?_⟩⟩, h.below⟩
  have hi := el_lt hx
  rw [List.length_replicate] at hi
  obtain rfl : x = (1, []) := by rw [List.getElem?_replicate, if_pos hi] at hx; exact (Option.some.inj hx).symm
  obtain ⟨h1, h2⟩ := h.el i hi
  rw [if_pos hi] at h1
  refine ⟨[.int .i64 1, .slice none 0 0], fun j d hd => ?_, mkow_Node (T0 := fun _ => False) (L0 := []) (a0 := none) (c0 := 0) (fun k h => h.elim) ⟨Nat.le_refl _, by unfold maxLen; omega, fun h => absurd h (Nat.lt_irrefl _)⟩⟩
  rw [size_NodeS]
  match j, hd with
  | 0, hd => simp at hd; subst hd; simpa using h1
  | 1, hd => simp at hd; subst hd; exact h2
  | j + 2, hd => simp at hd
set_option maxRecDepth 100000 in
set_option maxHeartbeats 1600000 in
theorem new_impl (n : Int) (W : World) : Calls Tryz.prog 55 #[.int .i64 n] W (NewS R_Node (newV n) W) := by
  have hs := fun W => is_impl n 1 6 W
  cases hq : isB n 1 6 with
  | false =>
    rw [newV_no hq]
    rw [hq] at hs
    clear hq
    go_enter Tryz.func55, Tryz.ntmps55
    go_wp2_with (go_at_call 90; refine (hs _).mono ?_; rintro e w' ⟨rfl, rfl⟩)
    go_ret
    exact ⟨_, _, rfl, ⟨Nat.le_refl _, by unfold maxLen; omega, fun h => absurd h (Nat.lt_irrefl _)⟩, Below.refl _ _⟩
  | true =>
    have hn := (isB_iff _ _ _).1 hq
    rw [newV_yes hq]
    rw [hq] at hs
    obtain ⟨m, rfl⟩ : ∃ m : Nat, n = m := ⟨n.toNat, by omega⟩
    have hm : m ≤ 6 := by omega
    rw [Int.toNat_natCast]
    clear hq hn
    have hmk := make_NodeS m (by omega)
    obtain ⟨w0, hw0⟩ : ∃ w, w = W.alloc (.cells (zs_NodeS m) 120) := ⟨_, rfl⟩
    have HM0 := Lib.hid (show NewM W w0 m 0 from by rw [hw0]; exact NewM.new W m hm)
    go_enter Tryz.func55, Tryz.ntmps55
    go_wp2_with (first | (go_at_call 90; refine (hs _).mono ?_; rintro e w' ⟨rfl, rfl⟩) | fail)
    rw [← hw0]
    clear hw0 hmk hs
    go_loopw [12] (fun i wr => ∃ k : Nat, k ≤ m ∧ i = .int .i64 k ∧ Hid (NewM W wr m k)) (fun i _ => m - (intOf i).toNat)
    case atStart => exact ⟨0, Nat.zero_le _, rfl, HM0⟩
    case round =>
      obtain ⟨k, hk, rfl, HM⟩ := hrel
      by_cases hlt : k < m
      · have HM2 := Lib.hid (HM.out.put hlt)
        have c0 := (HM.out.el k hlt).1
        rw [if_neg (Nat.lt_irrefl _)] at c0
        have f0 := HM.out.soft (k * 2)
        have hi0 : (0 : Int) ≤ (k : Int) := Int.natCast_nonneg _
        have hi1 : (k : Int) < (m : Int) := by omega
        go_wp2
        go_roundw
        case rel => exact ⟨k + 1, by omega, by go_num, HM2⟩
        case measure => simp [intOf]; omega
      · have hd : decide ((k : Int) < (m : Int)) = false := decide_eq_false (by omega)
        obtain rfl : k = m := by omega
        go_wp2
        go_ret
        exact HM.out.done hm
end Go.Proofs.YtelhmacfljffhaaGreat.RepC
end
section
namespace Go.Proofs.YtelhmacfljffhaaGreat.RepC
open Go.RowKit RowC ValC SpanC KeptC
set_option linter.unusedVariables false
set_option linter.unusedSimpArgs false
theorem ow_nil {α : Type} {E : Rp α} {w : World} : OwSl E w (fun _ => False) ([] : List α) none 0 := ⟨Nat.le_refl _, Nat.zero_le _, fun h => absurd h (Nat.lt_irrefl _)⟩
theorem mk_yard {W : World} {S : Nat → Prop} {C : List (List D_Label)} {P : List D_Pair} {Q : List D_Quota} {hf : Int} {N : List D_Node} {T : List D_Task} {U : List D_Use} {now : Int} {cs : List Value} {na ta ua : Option Addr} {nc tc uc : Nat} {SC SN ST SU : Nat → Prop} (h1 : ∀ k, SC k → S k) (h2 : ∀ k, SN k → S k) (h3 : ∀ k, ST k → S k) (h4 : ∀ k, SU k → S k) (d12 : ∀ k, SC k → ¬ SN k) (d13 : ∀ k, SC k → ¬ ST k) (d14 : ∀ k, SC k → ¬ SU k) (d23 : ∀ k, SN k → ¬ ST k) (d24 : ∀ k, SN k → ¬ SU k) (d34 : ∀ k, ST k → ¬ SU k) (hC : R_Config.ow W SC (C, P, Q, hf) cs) (hN : OwSl R_Node W SN N na nc) (hT : OwSl R_Task W ST T ta tc) (hU : OwSl R_Use W SU U ua uc) :
    R_Yard.ow W S ((C, P, Q, hf), N, T, U, now) (cs ++ [.slice na N.length nc, .slice ta T.length tc, .slice ua U.length uc, .int .i64 now]) :=
  ⟨cs, [.slice na N.length nc, .slice ta T.length tc, .slice ua U.length uc, .int .i64 now], SC, (fun k => SN k ∨ ST k ∨ SU k), rfl, h1, (fun k h => h.elim (h2 k) fun h => h.elim (h3 k) (h4 k)), (fun k h h' => h'.elim (d12 k h) fun h' => h'.elim (d13 k h) (d14 k h)), hC,
    ⟨[.slice na N.length nc], [.slice ta T.length tc, .slice ua U.length uc, .int .i64 now], SN, (fun k => ST k ∨ SU k), rfl, (fun k h => .inl h), (fun k h => .inr h), (fun k h h' => h'.elim (d23 k h) (d24 k h)), ⟨na, nc, rfl, hN⟩,
      ⟨[.slice ta T.length tc], [.slice ua U.length uc, .int .i64 now], ST, SU, rfl, (fun k h => .inl h), (fun k h => .inr h), d34, ⟨ta, tc, rfl, hT⟩,
        ⟨[.slice ua U.length uc], [.int .i64 now], SU, (fun _ => False), rfl, (fun k h => h), (fun k h => h.elim), (fun k h h' => h'.elim), ⟨ua, uc, rfl, hU⟩, rfl⟩⟩⟩⟩
theorem mk_out {W : World} {S : Nat → Prop} {y : D_Yard} {cs : List Value} {id code : Int} (h : R_Yard.ow W S y cs) : R_YardOut.ow W S (y, id, code) (cs ++ [.int .i64 id, .int .i64 code]) :=
  ⟨cs, [.int .i64 id, .int .i64 code], S, (fun _ => False), rfl, (fun k h => h), (fun k h => h.elim), (fun k h h' => h'.elim), h, ⟨[.int .i64 id], [.int .i64 code], (fun _ => False), (fun _ => False), rfl, (fun k h => h.elim), (fun k h => h.elim), (fun k h h' => h'.elim), rfl, rfl⟩⟩
def zeroOut (code : Int) : D_YardOut := ((([], [], [], 0), [], [], [], 0), 0, code)
theorem mk_zero {W : World} {S : Nat → Prop} (code : Int) : R_YardOut.ow W S (zeroOut code) [.slice none 0 0, .slice none 0 0, .slice none 0 0, .int .i64 0, .slice none 0 0, .slice none 0 0, .slice none 0 0, .int .i64 0, .int .i64 0, .int .i64 code] :=
  mk_out (mk_yard (SC := fun _ => False) (SN := fun _ => False) (ST := fun _ => False) (SU := fun _ => False) (fun k h => h.elim) (fun k h => h.elim) (fun k h => h.elim) (fun k h => h.elim) (fun k h => h.elim) (fun k h => h.elim) (fun k h => h.elim) (fun k h => h.elim) (fun k h => h.elim) (fun k h => h.elim) (mkow_Config (T0 := fun _ => False) (T1 := fun _ => False) (T2 := fun _ => False) (fun k h => h) (fun k h => h) (fun k h => h) (fun k h => h.elim) (fun k h => h.elim) (fun k h => h.elim) ow_nil ow_nil ow_nil) ow_nil ow_nil ow_nil)
noncomputable def newY (C : List (List D_Label)) (P : List D_Pair) (Q : List D_Quota) (hf : Int) : D_YardOut := if cfgB C P Q hf = true then (((C, P, Q, hf), newV C.length, [], [], 0), 0, 0) else zeroOut 1
theorem newY_yes {C : List (List D_Label)} {P : List D_Pair} {Q : List D_Quota} {hf : Int} (h : cfgB C P Q hf = true) : newY C P Q hf = (((C, P, Q, hf), newV C.length, [], [], 0), 0, 0) := if_pos h
theorem newY_no {C : List (List D_Label)} {P : List D_Pair} {Q : List D_Quota} {hf : Int} (h : cfgB C P Q hf = false) : newY C P Q hf = zeroOut 1 := if_neg (by rw [h]; decide)
end Go.Proofs.YtelhmacfljffhaaGreat.RepC
end
section
namespace Go.Proofs.YtelhmacfljffhaaGreat.RepC
open Go.RowKit RowC ValC SpanC KeptC
set_option linter.unusedVariables false
set_option linter.unusedSimpArgs false
set_option maxRecDepth 100000 in
set_option maxHeartbeats 1600000 in
theorem ill_at (c : Int) (W : World) : Calls Tryz.prog 48 #[.int .i64 c] W (fun e w' => e = .returned (.agg #[.slice none 0 0, .slice none 0 0, .slice none 0 0, .int .i64 0, .slice none 0 0, .slice none 0 0, .slice none 0 0, .int .i64 0, .int .i64 0, .int .i64 c]) ∧ Below W.heap.size W w') := by
  go_enter Tryz.func48, Tryz.ntmps48
  go_wp2
  refine bodyPost_ret (v := .agg #[.slice none 0 0, .slice none 0 0, .slice none 0 0, .int .i64 0, .slice none 0 0, .slice none 0 0, .slice none 0 0, .int .i64 0, .int .i64 0, .int .i64 c]) (by simp [results, Tryz.results48, go_sem]) rfl ⟨rfl, (Below.refl _ _).alloc (Nat.le_refl _) _⟩
theorem ARow.low {α : Type} {E : Rp α} {w w' : World} {lo : Nat} {T : TypeId} {v : Value} {L : List α} (hE : Ok E) (h : ARow E w lo T v L) (hs : w.heap.size ≤ w'.heap.size) (hb : ∀ k, lo ≤ k → k < w.heap.size → w'.heap[k]? = w.heap[k]?) : ARow E w' lo T v L := by
  obtain ⟨S, h⟩ := h
  exact ⟨S, (h.mv hE hs fun k hk => hb k (h.bnd hk).1 (h.bnd hk).2).rise hs⟩
theorem take_moreC {α : Type} {L : List α} {k : Nat} {x : α} (h : L[k]? = some x) : L.take k ++ [x] = L.take (k + 1) := by rw [List.take_add_one, h, Option.toList_some]
theorem app_sl {w w' : World} {lo : Nat} {v : Value} {L : List (List D_Label)} (h : ARow (Sl R_Label) w lo 72 v L) (hb : Below w.heap.size w w') {M : List D_Label} {a : Option Addr} {c blk : Nat} (hc : Blk w' blk 72 #[.slice a M.length c]) (hM : OwSl R_Label w' (Rg w.heap.size w'.heap.size) M a c) (hL : L.length ≤ 4096) :
    ∃ a' c' w2, (Builtin.append_ #[34, 34] 34 #[v, .slice (some ⟨blk, 0, none⟩) 1 1]).run Tryz.prog w' = .ok (.slice a' (L ++ [M]).length c') w2 ∧ ARow (Sl R_Label) w2 lo 72 (.slice a' (L ++ [M]).length c') (L ++ [M]) ∧ Below lo w' w2 := by
  obtain ⟨i, hi', hz, hs, hby⟩ := infoSL
  exact h.app (Sl_ok R_Label_ok) hb Tryz.underlying34 hi' hz hs hby rfl (by decide) (us := [.slice a M.length c]) (fun j u hj => hc.at_ j (by simpa using hj)) ⟨a, c, rfl, hM⟩ (by unfold maxLen; omega) (by omega)
theorem copy_labs {L : List D_Label} {a : Option Addr} {cap : Nat} {w : World} {ty : TypeId} (hn : L.length ≤ 1048576) (h : RdSl R_Label w w.heap.size L a cap) :
    ∃ a' c' w', (Builtin.append_ #[72, 72] ty #[.slice (some ⟨w.heap.size, 0, none⟩) 0 0, .slice a L.length cap]).run Tryz.prog (w.alloc (.cells #[] 67)) = .ok (.slice a' L.length c') w' ∧ OwSl R_Label w' (Rg w.heap.size w'.heap.size) L a' c' ∧ Below w.heap.size w w' := by
  obtain ⟨i, hi', hz, hs, hby⟩ := infoLb
  exact app_flat R_Label_ok flat_Label Tryz.underlying72 hi' hz hs hby rfl (by decide) (by unfold maxLen; omega) (by omega) h
set_option maxRecDepth 100000 in
set_option maxHeartbeats 3200000 in
theorem copycfg_spec {C : List (List D_Label)} {P : List D_Pair} {Q : List D_Quota} {hf : Int} {ca pa qa : Option Addr} {cc pc qc : Nat} {W : World} (hR : ClearR C) (hp : P.length ≤ 1048576) (hq : Q.length ≤ 1048576) (hC : RdSl (Sl R_Label) W W.heap.size C ca cc) (hP : RdSl R_Pair W W.heap.size P pa pc) (hQ : RdSl R_Quota W W.heap.size Q qa qc) :
    Calls Tryz.prog 49 #[.agg #[.slice ca C.length cc, .slice pa P.length pc, .slice qa Q.length qc, .int .i64 hf]] W (NewV R_Config (C, P, Q, hf) W) := by
  have hn : C.length ≤ 6 := hR.2.1
  have HRR := Lib.hid hR
  have HCW := Lib.hid hC
  have HPW := Lib.hid hP
  have HQW := Lib.hid hQ
  clear hR hC hP hQ
  obtain ⟨w0, hw0⟩ : ∃ w, w = ((W.alloc (.cells #[.slice ca C.length cc, .slice pa P.length pc, .slice qa Q.length qc, .int .i64 hf] 38)).alloc (.cells #[.slice none 0 0, .slice none 0 0, .slice none 0 0, .int .i64 0] 38)).alloc (.cells #[.slice none 0 0, .slice none 0 0, .slice none 0 0, .int .i64 hf] 38) := ⟨_, rfl⟩
  have hb0 : Below W.heap.size W w0 := by rw [hw0]; exact (((Below.refl _ _).alloc (Nat.le_refl _) _).alloc (by simp) _).alloc (by simp <;> omega) _
  have x0_ : Blk w0 (W.heap.size) 38 #[.slice ca C.length cc, .slice pa P.length pc, .slice qa Q.length qc, .int .i64 hf] := by
    have h9 := Blk.new W 38 #[.slice ca C.length cc, .slice pa P.length pc, .slice qa Q.length qc, .int .i64 hf]
    try simp only [World.size_alloc] at h9
    rw [hw0]; exact ((h9.alloc _).alloc _)
  have X0 := Lib.hid x0_
  have x1_ : Blk w0 (W.heap.size + 1) 38 #[.slice none 0 0, .slice none 0 0, .slice none 0 0, .int .i64 0] := by
    have h9 := Blk.new (W.alloc (.cells #[.slice ca C.length cc, .slice pa P.length pc, .slice qa Q.length qc, .int .i64 hf] 38)) 38 #[.slice none 0 0, .slice none 0 0, .slice none 0 0, .int .i64 0]
    try simp only [World.size_alloc] at h9
    rw [hw0]; exact (h9.alloc _)
  have X1 := Lib.hid x1_
  have x2_ : Blk w0 (W.heap.size + 1 + 1) 38 #[.slice none 0 0, .slice none 0 0, .slice none 0 0, .int .i64 hf] := by
    have h9 := Blk.new ((W.alloc (.cells #[.slice ca C.length cc, .slice pa P.length pc, .slice qa Q.length qc, .int .i64 hf] 38)).alloc (.cells #[.slice none 0 0, .slice none 0 0, .slice none 0 0, .int .i64 0] 38)) 38 #[.slice none 0 0, .slice none 0 0, .slice none 0 0, .int .i64 hf]
    try simp only [World.size_alloc] at h9
    rw [hw0]; exact h9
  have X2 := Lib.hid x2_
  have HB0 := Lib.hid hb0
  have hz0 := hb0.size
  clear hb0  x0_ x1_ x2_
  have hs0 : w0.heap.size = W.heap.size + 1 + 1 + 1 := by rw [hw0]; simp
  have HA0 := Lib.hid (show ARow (Sl R_Label) w0 w0.heap.size 72 (.slice none 0 0) (C.take 0) from ARow.none_ _ _ _)
  go_enter Tryz.func49, Tryz.ntmps49
  go_upto_region 2 with fail
  rw [← hw0]
  clear hw0
  go_wp2
  go_loopw [4] (fun i wr => ∃ k : Nat, k ≤ C.length ∧ i = .int .i64 k ∧ ∃ v, Hid (ARow (Sl R_Label) wr w0.heap.size 72 v (C.take k)) ∧ Hid (Blk wr (W.heap.size + 1 + 1) 38 #[v, .slice none 0 0, .slice none 0 0, .int .i64 hf]) ∧ Hid (Blk wr (W.heap.size + 1) 38 #[.slice none 0 0, .slice none 0 0, .slice none 0 0, .int .i64 0]) ∧ Hid (Blk wr W.heap.size 38 #[.slice ca C.length cc, .slice pa P.length pc, .slice qa Q.length qc, .int .i64 hf]) ∧ Hid (Below W.heap.size W wr) ∧ w0.heap.size ≤ wr.heap.size) (fun i _ => C.length - (intOf i).toNat)
  case atStart => exact ⟨0, Nat.zero_le _, rfl, _, HA0, X2, X1, X0, HB0, Nat.le_refl _⟩
  case round =>
    obtain ⟨k, hk, rfl, v, HA, Y2, Y1, Y0, HB, hsz⟩ := hrel
    obtain ⟨va, vc, hv⟩ := HA.out.isSlice
    rw [List.length_take, Nat.min_eq_left hk] at hv
    subst hv
    have q0 := Y0.out.at_ 0 rfl
    by_cases hlt : k < C.length
    · have hdl : decide ((k : Int) < (C.length : Int)) = true := decide_eq_true (by omega)
      obtain ⟨x, hx⟩ := el_some hlt
      have HT := Lib.hid (take_moreC hx)
      have hx4 : x.length ≤ 4 := (HRR.out.2.2 k x hx).2.1
      obtain ⟨g, o, us, rfl, hg, hu, hr⟩ := HCW.out.at_ hx
      obtain ⟨ba, bc, rfl, hM⟩ := hr
      have e0 : W.cell? ⟨g, o + k, none⟩ = some (.slice ba x.length bc) := by simpa [size_SLab] using hu 0 _ rfl
      have hi0 : (0 : Int) ≤ (k : Int) := Int.natCast_nonneg _
      have hi1 : (k : Int) < (C.length : Int) := by omega
      have hMr : RdSl R_Label wr.drew wr.drew.heap.size x ba bc := rd_mv R_Label_ok hM HB.out.drew
      obtain ⟨a1, c1, w1, hrun1, ho1, hb1⟩ := copy_labs (ty := 72) (w := wr.drew) (by omega) hMr
      have hA : Below wr.heap.size wr ((wr.alloc (.cells #[] 67)).drew) := ((Below.refl _ _).alloc (Nat.le_refl _) _).drew
      have hb1' : Below wr.heap.size wr w1 := (Below.refl _ wr).drew.trans hb1
      have ho1' : OwSl R_Label w1 (Rg wr.heap.size w1.heap.size) x a1 c1 := ho1
      have HRun1 := Lib.hid (show (Builtin.append_ #[72, 72] 72 #[.slice (some ⟨wr.heap.size, 0, none⟩) 0 0, .slice ba x.length bc]).run Tryz.prog ((wr.alloc (.cells #[] 67)).drew) = .ok (.slice a1 x.length c1) w1 from hrun1)
      obtain ⟨w2, hw2⟩ : ∃ w, w = w1.alloc (.cells #[.slice a1 x.length c1] 72) := ⟨_, rfl⟩
      have hb12 : Below w1.heap.size w1 w2 := by rw [hw2]; exact (Below.refl _ _).alloc (Nat.le_refl _) _
      have hbl : Blk w2 w1.heap.size 72 #[.slice a1 x.length c1] := by rw [hw2]; exact Blk.new _ _ _
      have ho2 : OwSl R_Label w2 (Rg wr.heap.size w2.heap.size) x a1 c1 := (ho1'.keep R_Label_ok fun q hq => hb12.block q hq.2).more fun q hq => ⟨hq.1, Nat.lt_of_lt_of_le hq.2 hb12.size⟩
      have hb2 : Below wr.heap.size wr w2 := hb1'.trans (hb12.mono hb1'.size)
      obtain ⟨a3, c3, w3, hrun3, hrow, hb3⟩ := app_sl HA.out hb2 hbl ho2 (by rw [List.length_take]; omega)
      have hz3 : w2.heap.size ≤ w3.heap.size := hb3.size
      have hz2 : wr.heap.size ≤ w2.heap.size := hb2.size
      have HRun3 := Lib.hid hrun3
      have hlen : (C.take (k + 1)).length = k + 1 := by rw [List.length_take]; omega
      have hlk : (C.take k).length = k := by rw [List.length_take]; omega
      rw [HT.out, hlen] at hrow HRun3
      have Y2A := Lib.hid (Y2.out.call hA)
      have Y21 := Lib.hid (Y2.out.call hb1')
      have Y22 := Lib.hid (Y2.out.call hb2)
      have low : ∀ q, q < w0.heap.size → w3.heap[q]? = w2.heap[q]? := fun q hq => hb3.block q hq
      have Y23 := Lib.hid (show Blk w3 (W.heap.size + 1 + 1) 38 #[.slice va k vc, .slice none 0 0, .slice none 0 0, .int .i64 hf] from (low (W.heap.size + 1 + 1) (by omega)).trans Y22.out)
      have Y13 := Lib.hid (show Blk w3 (W.heap.size + 1) 38 #[.slice none 0 0, .slice none 0 0, .slice none 0 0, .int .i64 0] from (low (W.heap.size + 1) (by omega)).trans (Y1.out.call hb2))
      have Y03 := Lib.hid (show Blk w3 W.heap.size 38 #[.slice (some ⟨g, o, none⟩) C.length cc, .slice pa P.length pc, .slice qa Q.length qc, .int .i64 hf] from (low W.heap.size (by omega)).trans (Y0.out.call hb2))
      have HB3 := Lib.hid ((HB.out.trans (hb2.mono HB.out.size)).trans (hb3.mono (by omega)))
      have Y24 := Lib.hid (show Blk (w3.setCell ⟨(W.heap.size + 1 + 1), 0, none⟩ (.slice a3 (k + 1) c3)) (W.heap.size + 1 + 1) 38 #[.slice a3 (k + 1) c3, .slice none 0 0, .slice none 0 0, .int .i64 hf] from Y23.out.set 0 _)
      have Y14 := Lib.hid (Blk.far (b := (W.heap.size + 1 + 1)) (o := 0) Y13.out (by omega) (.slice a3 (k + 1) c3))
      have Y04 := Lib.hid (Blk.far (b := (W.heap.size + 1 + 1)) (o := 0) Y03.out (by omega) (.slice a3 (k + 1) c3))
      have HB4 := Lib.hid (HB3.out.setCell (p := ⟨(W.heap.size + 1 + 1), 0, none⟩) (by show W.heap.size ≤ (W.heap.size + 1 + 1); omega) (.slice a3 (k + 1) c3))
      have HR4 := Lib.hid (ARow.low (w' := w3.setCell ⟨(W.heap.size + 1 + 1), 0, none⟩ (.slice a3 (k + 1) c3)) (Sl_ok R_Label_ok) hrow (by simp) fun q hq _ => Below.heap_setCell w3 ⟨(W.heap.size + 1 + 1), 0, none⟩ (.slice a3 (k + 1) c3) q (by show q ≠ (W.heap.size + 1 + 1); omega))
      have hz4 : w0.heap.size ≤ (w3.setCell ⟨(W.heap.size + 1 + 1), 0, none⟩ (.slice a3 (k + 1) c3)).heap.size := by simp; omega
      have HSA := Lib.hid (show (fun V => Below W.heap.size W V ∧ Blk V W.heap.size 38 #[.slice (some ⟨g, o, none⟩) C.length cc, .slice pa P.length pc, .slice qa Q.length qc, .int .i64 hf]) ((wr.alloc (.cells #[] 67)).drew) from ⟨HB.out.trans (hA.mono HB.out.size), Y0.out.call hA⟩)
      have HS1 := Lib.hid (show (fun V => Below W.heap.size W V ∧ Blk V W.heap.size 38 #[.slice (some ⟨g, o, none⟩) C.length cc, .slice pa P.length pc, .slice qa Q.length qc, .int .i64 hf]) w1 from ⟨HB.out.trans (hb1'.mono HB.out.size), Y0.out.call hb1'⟩)
      have HS2 := Lib.hid (show (fun V => Below W.heap.size W V ∧ Blk V W.heap.size 38 #[.slice (some ⟨g, o, none⟩) C.length cc, .slice pa P.length pc, .slice qa Q.length qc, .int .i64 hf]) w2 from ⟨HB.out.trans (hb2.mono HB.out.size), Y0.out.call hb2⟩)
      have HS3 := Lib.hid (show (fun V => Below W.heap.size W V ∧ Blk V W.heap.size 38 #[.slice (some ⟨g, o, none⟩) C.length cc, .slice pa P.length pc, .slice qa Q.length qc, .int .i64 hf]) w3 from ⟨HB3.out, Y03.out⟩)
      have HS4 := Lib.hid (show (fun V => Below W.heap.size W V ∧ Blk V W.heap.size 38 #[.slice (some ⟨g, o, none⟩) C.length cc, .slice pa P.length pc, .slice qa Q.length qc, .int .i64 hf]) (w3.setCell ⟨(W.heap.size + 1 + 1), 0, none⟩ (.slice a3 (k + 1) c3)) from ⟨HB4.out, Y04.out⟩)
      have HG := Lib.hid hg
      have hS0 : (fun V => Below W.heap.size W V ∧ Blk V W.heap.size 38 #[.slice (some ⟨g, o, none⟩) C.length cc, .slice pa P.length pc, .slice qa Q.length qc, .int .i64 hf]) wr.drew := ⟨HB.out.drew, Y0.out.call (Below.refl _ wr).drew⟩
      have HD2 := Lib.hid (Y2.out.call (Below.refl _ wr).drew)
      rw [hw2] at HRun3 HS2 Y22
      clear hrun1 hrun3 hrow hb1 hb1' ho1 ho1' hb12 hbl ho2 hb2 hb3 hw2 hMr hu hM hx hlen hA low
      go_upto_region 5 with fail
      have c0 := HD2.out.at_ 0 rfl
      have cA := Y2A.out.at_ 0 rfl
      have c1_ := Y21.out.at_ 0 rfl
      have c2_ := Y22.out.at_ 0 rfl
      have c3_ := Y23.out.at_ 0 rfl
      have f3_ := Y23.out.soft 0
      refine wp_region_held_drew (S := (fun V => Below W.heap.size W V ∧ Blk V W.heap.size 38 #[.slice (some ⟨g, o, none⟩) C.length cc, .slice pa P.length pc, .slice qa Q.length qc, .int .i64 hf])) (by kernel_rfl) (hS0) (fun hHeld => ?_)
      refine tk 0 hHeld ?_
      refine tk 3 hHeld ?_
      refine tk 4 hHeld ?_ (hy := fun w hSw => by (try dsimp only at hSw); have k0 := hSw.2.at_ 0 rfl; clear hSw; go_simp; try with_reducible rfl)
      refine tk 5 hHeld ?_
      refine tk 6 hHeld ?_
      refine tk 7 hHeld ?_ (hy := fun w hSw => by (try dsimp only at hSw); have k0 := (hSw.1.cell (p := ⟨g, o + k, none⟩) HG.out).trans e0; clear hSw; go_simp; try with_reducible rfl)
      refine rd2 1 2 (fun K hK => ?_) (fun K hK => ?_)
      · skip
        go_simp
        refine hK.out _ _ hHeld (fun hHeld => ?_)
        clear hK K
        refine rd1 2 (fun K hK => ?_)
        go_simp
        refine hK.out _ _ HSA.out (fun hHeld => ?_)
        clear hK K
        refine rd1 8 (fun K hK => ?_)
        refine step_app rfl (.tmp 17) (.tmp 22) 72 rfl rfl rfl HRun1.out ?_
        refine hK.out _ _ HS1.out (fun hHeld => ?_)
        clear hK K
        refine rd1 9 (fun K hK => ?_)
        go_simp
        refine hK.out _ _ HS2.out (fun hHeld => ?_)
        clear hK K
        refine rd1 10 (fun K hK => ?_)
        refine step_app rfl (.tmp 16) (.tmp 24) 34 rfl rfl rfl HRun3.out ?_
        refine hK.out _ _ HS3.out (fun hHeld => ?_)
        clear hK K
        refine tk 11 hHeld ?_
        refine rd1 12 (fun K hK => ?_)
        go_simp
        refine hK.out _ _ HS4.out (fun hHeld => ?_)
        clear hK K
        refine rd0 ?_
        clear hHeld
        go_wp2
        go_roundw
        case rel => exact ⟨k + 1, by omega, by go_num, _, HR4, Y24, Y14, Y04, HB4, hz4⟩
        case measure => simp [intOf]; omega
      · skip
        go_simp
        refine hK.out _ _ HSA.out (fun hHeld => ?_)
        clear hK K
        refine rd2 1 8 (fun K hK => ?_) (fun K hK => ?_)
        · skip
          go_simp
          refine hK.out _ _ hHeld (fun hHeld => ?_)
          clear hK K
          refine rd1 8 (fun K hK => ?_)
          refine step_app rfl (.tmp 17) (.tmp 22) 72 rfl rfl rfl HRun1.out ?_
          refine hK.out _ _ HS1.out (fun hHeld => ?_)
          clear hK K
          refine rd1 9 (fun K hK => ?_)
          go_simp
          refine hK.out _ _ HS2.out (fun hHeld => ?_)
          clear hK K
          refine rd1 10 (fun K hK => ?_)
          refine step_app rfl (.tmp 16) (.tmp 24) 34 rfl rfl rfl HRun3.out ?_
          refine hK.out _ _ HS3.out (fun hHeld => ?_)
          clear hK K
          refine tk 11 hHeld ?_
          refine rd1 12 (fun K hK => ?_)
          go_simp
          refine hK.out _ _ HS4.out (fun hHeld => ?_)
          clear hK K
          refine rd0 ?_
          clear hHeld
          go_wp2
          go_roundw
          case rel => exact ⟨k + 1, by omega, by go_num, _, HR4, Y24, Y14, Y04, HB4, hz4⟩
          case measure => simp [intOf]; omega
        · skip
          refine step_app rfl (.tmp 17) (.tmp 22) 72 rfl rfl rfl HRun1.out ?_
          refine hK.out _ _ HS1.out (fun hHeld => ?_)
          clear hK K
          refine rd2 1 9 (fun K hK => ?_) (fun K hK => ?_)
          · skip
            go_simp
            refine hK.out _ _ hHeld (fun hHeld => ?_)
            clear hK K
            refine rd1 9 (fun K hK => ?_)
            go_simp
            refine hK.out _ _ HS2.out (fun hHeld => ?_)
            clear hK K
            refine rd1 10 (fun K hK => ?_)
            refine step_app rfl (.tmp 16) (.tmp 24) 34 rfl rfl rfl HRun3.out ?_
            refine hK.out _ _ HS3.out (fun hHeld => ?_)
            clear hK K
            refine tk 11 hHeld ?_
            refine rd1 12 (fun K hK => ?_)
            go_simp
            refine hK.out _ _ HS4.out (fun hHeld => ?_)
            clear hK K
            refine rd0 ?_
            clear hHeld
            go_wp2
            go_roundw
            case rel => exact ⟨k + 1, by omega, by go_num, _, HR4, Y24, Y14, Y04, HB4, hz4⟩
            case measure => simp [intOf]; omega
          · skip
            go_simp
            refine hK.out _ _ HS2.out (fun hHeld => ?_)
            clear hK K
            refine rd1 1 (fun K hK => ?_)
            go_simp
            refine hK.out _ _ hHeld (fun hHeld => ?_)
            clear hK K
            refine rd1 10 (fun K hK => ?_)
            refine step_app rfl (.tmp 16) (.tmp 24) 34 rfl rfl rfl HRun3.out ?_
            refine hK.out _ _ HS3.out (fun hHeld => ?_)
            clear hK K
            refine tk 11 hHeld ?_
            refine rd1 12 (fun K hK => ?_)
            go_simp
            refine hK.out _ _ HS4.out (fun hHeld => ?_)
            clear hK K
            refine rd0 ?_
            clear hHeld
            go_wp2
            go_roundw
            case rel => exact ⟨k + 1, by omega, by go_num, _, HR4, Y24, Y14, Y04, HB4, hz4⟩
            case measure => simp [intOf]; omega
    · have hdl : decide ((k : Int) < (C.length : Int)) = false := decide_eq_false (by omega)
      obtain rfl : k = C.length := by omega
      obtain ⟨S, hS⟩ := HA.out
      rw [List.take_length] at hS
      obtain ⟨ra, rc, hv, ho0⟩ := hS.done (Sl_ok R_Label_ok)
      cases hv
      have HO0 := Lib.hid ho0
      -- the pairs
      obtain ⟨i5, hi5, hz5, hs5, hby5⟩ := infoPair
      obtain ⟨pa', pc', w6, hr6, hrow6, hb6⟩ := FRow.more (ty := 35) R_Pair_ok flat_Pair (FRow.none_ R_Pair _ wr wr.heap.size 149) Tryz.underlying35 hi5 hz5 hs5 hby5 rfl (by decide) (rd_mv R_Pair_ok HPW.out HB.out) (Nat.le_refl _) (by unfold maxLen; simp only [List.length_nil]; omega) (by simp only [List.length_nil]; omega)
      simp only [List.nil_append] at hr6 hrow6
      obtain ⟨_, _, e6, ho6, _⟩ := newS_elim (FRow.news R_Pair_ok flat_Pair hrow6 (Nat.le_refl _) hb6)
      cases e6
      have HR6 := Lib.hid hr6
      have HO1 := Lib.hid ho6
      have hz6 := hb6.size
      have Z2 := Lib.hid (Y2.out.call hb6)
      have HB6 := Lib.hid (HB.out.trans (hb6.mono HB.out.size))
      obtain ⟨w7, hw7⟩ : ∃ w, w = w6.setCell ⟨(W.heap.size + 1 + 1), 1, none⟩ (.slice pa' P.length pc') := ⟨_, rfl⟩
      have V2 := Lib.hid (show Blk w7 (W.heap.size + 1 + 1) 38 #[.slice va C.length vc, .slice pa' P.length pc', .slice none 0 0, .int .i64 hf] from by rw [hw7]; exact Z2.out.set 1 _)
      have V1 := Lib.hid (show Blk w7 (W.heap.size + 1) 38 #[.slice none 0 0, .slice none 0 0, .slice none 0 0, .int .i64 0] from by rw [hw7]; exact Blk.far (b := (W.heap.size + 1 + 1)) (o := 1) (Y1.out.call hb6) (by omega) _)
      have V0 := Lib.hid (show Blk w7 W.heap.size 38 #[.slice ca C.length cc, .slice pa P.length pc, .slice qa Q.length qc, .int .i64 hf] from by rw [hw7]; exact Blk.far (b := (W.heap.size + 1 + 1)) (o := 1) (Y0.out.call hb6) (by omega) _)
      have HB7 := Lib.hid (show Below W.heap.size W w7 from by rw [hw7]; exact HB6.out.setCell (p := ⟨(W.heap.size + 1 + 1), 1, none⟩) (by show W.heap.size ≤ (W.heap.size + 1 + 1); omega) _)
      have hz7 : w7.heap.size = w6.heap.size := by rw [hw7]; simp
      have hk7 : ∀ q, w0.heap.size ≤ q → w7.heap[q]? = w6.heap[q]? := fun q hq => by rw [hw7]; exact Below.heap_setCell w6 ⟨(W.heap.size + 1 + 1), 1, none⟩ _ q (by show q ≠ (W.heap.size + 1 + 1); omega)
      have HO0 := Lib.hid ((HO0.out.keep (Sl_ok R_Label_ok) fun q hq => hb6.block q hq.2).keep (Sl_ok R_Label_ok) fun q hq => hk7 q hq.1)
      have HO1 := Lib.hid (HO1.out.keep R_Pair_ok fun q hq => hk7 q (by have := hq.1; omega))
      -- the quotas
      obtain ⟨i8, hi8, hz8, hs8, hby8⟩ := infoQuota
      obtain ⟨qa', qc', w8, hr8, hrow8, hb8⟩ := FRow.more (ty := 36) R_Quota_ok flat_Quota (FRow.none_ R_Quota _ w7 w7.heap.size 131) Tryz.underlying36 hi8 hz8 hs8 hby8 rfl (by decide) (rd_mv R_Quota_ok HQW.out HB7.out) (Nat.le_refl _) (by unfold maxLen; simp only [List.length_nil]; omega) (by simp only [List.length_nil]; omega)
      simp only [List.nil_append] at hr8 hrow8
      obtain ⟨_, _, e8, ho8, _⟩ := newS_elim (FRow.news R_Quota_ok flat_Quota hrow8 (Nat.le_refl _) hb8)
      cases e8
      have HR8 := Lib.hid hr8
      have HO2 := Lib.hid ho8
      have hzz8 := hb8.size
      have U2 := Lib.hid (V2.out.call hb8)
      have HB8 := Lib.hid (HB7.out.trans (hb8.mono HB7.out.size))
      obtain ⟨w9, hw9⟩ : ∃ w, w = w8.setCell ⟨(W.heap.size + 1 + 1), 2, none⟩ (.slice qa' Q.length qc') := ⟨_, rfl⟩
      have T2 := Lib.hid (show Blk w9 (W.heap.size + 1 + 1) 38 #[.slice va C.length vc, .slice pa' P.length pc', .slice qa' Q.length qc', .int .i64 hf] from by rw [hw9]; exact U2.out.set 2 _)
      have T1 := Lib.hid (show Blk w9 (W.heap.size + 1) 38 #[.slice none 0 0, .slice none 0 0, .slice none 0 0, .int .i64 0] from by rw [hw9]; exact Blk.far (b := (W.heap.size + 1 + 1)) (o := 2) (V1.out.call hb8) (by omega) _)
      have HB9 := Lib.hid (show Below W.heap.size W w9 from by rw [hw9]; exact HB8.out.setCell (p := ⟨(W.heap.size + 1 + 1), 2, none⟩) (by show W.heap.size ≤ (W.heap.size + 1 + 1); omega) _)
      have hz9 : w9.heap.size = w8.heap.size := by rw [hw9]; simp
      have hk9 : ∀ q, w0.heap.size ≤ q → w9.heap[q]? = w8.heap[q]? := fun q hq => by rw [hw9]; exact Below.heap_setCell w8 ⟨(W.heap.size + 1 + 1), 2, none⟩ _ q (by show q ≠ (W.heap.size + 1 + 1); omega)
      have HO0 := Lib.hid ((HO0.out.keep (Sl_ok R_Label_ok) fun q hq => hb8.block q (by have := hq.2; omega)).keep (Sl_ok R_Label_ok) fun q hq => hk9 q hq.1)
      have HO1 := Lib.hid ((HO1.out.keep R_Pair_ok fun q hq => hb8.block q (by have := hq.2; omega)).keep R_Pair_ok fun q hq => hk9 q (by have := hq.1; omega))
      have HO2 := Lib.hid (HO2.out.keep R_Quota_ok fun q hq => hk9 q (by have := hq.1; omega))
      have HST := Lib.hid (soff_Config w9 (W.heap.size + 1) (.slice va C.length vc) (.slice pa' P.length pc') (.slice qa' Q.length qc') (.int .i64 hf))
      have HSB := Lib.hid (sets_Config (w := w9) (g := W.heap.size + 1) (v0 := .slice va C.length vc) (v1 := .slice pa' P.length pc') (v2 := .slice qa' Q.length qc') (v3 := .int .i64 hf) T1.out)
      have HBF := Lib.hid (bel_off HB9.out HST.out (fun k hk => by rw [hk]; omega) HB9.out.size)
      have hzr : w0.heap.size ≤ wr.heap.size := hsz
      clear hi5 hz5 hs5 hby5 hr6 hrow6 ho6 hi8 hz8 hs8 hby8 hr8 hrow8 ho8 ho0 hS
      have y0 := Y0.out.at_ 1 rfl
      have y1 := Y2.out.at_ 1 rfl
      have z1 := Z2.out.at_ 1 rfl
      have z1f := Z2.out.soft 1
      have v0_ := V0.out.at_ 2 rfl
      have v2_ := V2.out.at_ 2 rfl
      have u2_ := U2.out.at_ 2 rfl
      have u2f := U2.out.soft 2
      have t0 := T2.out.at_ 0 rfl
      have t1 := T2.out.at_ 1 rfl
      have t2 := T2.out.at_ 2 rfl
      have t3 := T2.out.at_ 3 rfl
      have s0 := T1.out.at_ 0 rfl
      have s1 := T1.out.at_ 1 rfl
      have s2 := T1.out.at_ 2 rfl
      have s3 := T1.out.at_ 3 rfl
      have k0 := T1.out.soft 0
      have k1 := T1.out.soft 1
      have k2 := T1.out.soft 2
      have k3 := T1.out.soft 3
      clear hb6 hb8
      go_upto_region 7 with (at_builtin; refine wpList_app rfl (.tmp 28) (.tmp 30) 35 rfl rfl rfl HR6.out ?_)
      rw [← hw7]
      clear hw7 y1 z1 z1f
      go_upto_region 8 with (at_builtin; refine wpList_app rfl (.tmp 34) (.tmp 36) 36 rfl rfl rfl HR8.out ?_)
      rw [← hw9]
      clear hw9 u2_ u2f v2_
      go_wp2
      have r0 := HSB.out.at_ 0 rfl
      have r1 := HSB.out.at_ 1 rfl
      have r2 := HSB.out.at_ 2 rfl
      have r3 := HSB.out.at_ 3 rfl
      refine bodyPost_ret (v := .agg #[.slice va C.length vc, .slice pa' P.length pc', .slice qa' Q.length qc', .int .i64 hf]) (by simp [results, Tryz.results49, go_sem, *]) rfl ⟨[.slice va C.length vc, .slice pa' P.length pc', .slice qa' Q.length qc', .int .i64 hf], rfl, ?_, HBF.out⟩
      have hszf := HST.out.size
      have hoff : ∀ q, w0.heap.size ≤ q → q < w9.heap.size → q < w9.heap.size ∧ ¬ q = W.heap.size + 1 := fun q h1 h2 => ⟨h2, by omega⟩
      exact mkow_Config (T0 := Rg w0.heap.size wr.heap.size) (T1 := Rg wr.heap.size w6.heap.size) (T2 := Rg w7.heap.size w8.heap.size) (fun k hk => ⟨by have := hk.1; omega, by have := hk.2; omega⟩) (fun k hk => ⟨by have := hk.1; omega, by have := hk.2; omega⟩) (fun k hk => ⟨by have := hk.1; omega, by have := hk.2; omega⟩) (fun k h h' => by have h1 := h.2; have h2 := h'.1; omega) (fun k h h' => by have h1 := h.2; have h2 := h'.1; omega) (fun k h h' => by have h1 := h.2; have h2 := h'.1; omega) (ow_off (Sl_ok R_Label_ok) HO0.out HST.out fun q hq => hoff q hq.1 (by have := hq.2; omega)) (ow_off R_Pair_ok HO1.out HST.out fun q hq => hoff q (by have := hq.1; omega) (by have := hq.2; omega)) (ow_off R_Quota_ok HO2.out HST.out fun q hq => hoff q (by have := hq.1; omega) (by have := hq.2; omega))
end Go.Proofs.YtelhmacfljffhaaGreat.RepC
end
section
namespace Go.Proofs.YtelhmacfljffhaaGreat.RepC
open Go.RowKit RowC ValC SpanC KeptC
set_option linter.unusedVariables false
set_option linter.unusedSimpArgs false
set_option maxRecDepth 100000 in
set_option maxHeartbeats 3200000 in
theorem yardnew_spec {C : List (List D_Label)} {P : List D_Pair} {Q : List D_Quota} {hf : Int} {ca pa qa : Option Addr} {cc pc qc : Nat} {W : World} (hq : Q.length ≤ 1048576) (hC : RdSl (Sl R_Label) W W.heap.size C ca cc) (hP : RdSl R_Pair W W.heap.size P pa pc) (hQ : RdSl R_Quota W W.heap.size Q qa qc) :
    Calls Tryz.prog 11 #[.agg #[.slice ca C.length cc, .slice pa P.length pc, .slice qa Q.length qc, .int .i64 hf]] W (NewV R_YardOut (newY C P Q hf) W) := by
  obtain ⟨DR, hDR⟩ : ∃ d, newY C P Q hf = d := ⟨_, rfl⟩
  have HDR := Lib.hid hDR
  rw [hDR]
  clear hDR
  have hCn : C.length ≤ 9223372036854775807 := by have h1 := hC.1; have h2 := hC.2.1; unfold maxLen at h2; omega
  obtain ⟨z, hz⟩ : ∃ z, cfgB C P Q hf = z := ⟨_, rfl⟩
  have HZ := Lib.hid hz
  clear hz
  have HCW := Lib.hid hC
  have HPW := Lib.hid hP
  have HQW := Lib.hid hQ
  clear hC hP hQ
  obtain ⟨w0, hw0⟩ : ∃ w, w = (W.alloc (.cells #[.slice ca C.length cc, .slice pa P.length pc, .slice qa Q.length qc, .int .i64 hf] 38)).alloc (.cells #[.slice none 0 0, .slice none 0 0, .slice none 0 0, .int .i64 0, .slice none 0 0, .slice none 0 0, .slice none 0 0, .int .i64 0, .int .i64 0, .int .i64 0] 49) := ⟨_, rfl⟩
  have hb0 : Below W.heap.size W w0 := by rw [hw0]; exact ((Below.refl _ _).alloc (Nat.le_refl _) _).alloc (by simp) _
  have x0_ : Blk w0 (W.heap.size) 38 #[.slice ca C.length cc, .slice pa P.length pc, .slice qa Q.length qc, .int .i64 hf] := by
    have h9 := Blk.new W 38 #[.slice ca C.length cc, .slice pa P.length pc, .slice qa Q.length qc, .int .i64 hf]
    try simp only [World.size_alloc] at h9
    rw [hw0]; exact (h9.alloc _)
  have X0 := Lib.hid x0_
  have x1_ : Blk w0 (W.heap.size + 1) 49 #[.slice none 0 0, .slice none 0 0, .slice none 0 0, .int .i64 0, .slice none 0 0, .slice none 0 0, .slice none 0 0, .int .i64 0, .int .i64 0, .int .i64 0] := by
    have h9 := Blk.new (W.alloc (.cells #[.slice ca C.length cc, .slice pa P.length pc, .slice qa Q.length qc, .int .i64 hf] 38)) 49 #[.slice none 0 0, .slice none 0 0, .slice none 0 0, .int .i64 0, .slice none 0 0, .slice none 0 0, .slice none 0 0, .int .i64 0, .int .i64 0, .int .i64 0]
    try simp only [World.size_alloc] at h9
    rw [hw0]; exact h9
  have X1 := Lib.hid x1_
  have HB0 := Lib.hid hb0
  have hz0 := hb0.size
  clear hb0  x0_ x1_
  have hs0 : w0.heap.size = W.heap.size + 1 + 1 := by rw [hw0]; simp
  go_enter Tryz.func11, Tryz.ntmps11
  go_upto_region 1 with fail
  rw [← hw0]
  clear hw0
  have qX0_0 := X0.out.at_ 0 rfl
  have qX0_1 := X0.out.at_ 1 rfl
  have qX0_2 := X0.out.at_ 2 rfl
  have qX0_3 := X0.out.at_ 3 rfl
  go_wp2_with fail
  have hcx := config_spec (rd_mv (Sl_ok R_Label_ok) HCW.out HB0.out) (rd_mv R_Pair_ok HPW.out HB0.out) (rd_mv R_Quota_ok HQW.out HB0.out) (hf := hf)
  rw [HZ.out] at hcx
  refine hcx.mono ?_
  intro e w1 h
  obtain ⟨rfl, hb⟩ := isB_elim h
  have HB1 := Lib.hid (HB0.out.trans (hb.mono hz0))
  have Y0 := Lib.hid (X0.out.call hb)
  have Y1 := Lib.hid (X1.out.call hb)
  have hz1 : w0.heap.size ≤ w1.heap.size := hb.size
  clear h hb hcx X0 X1 qX0_0 qX0_1 qX0_2 qX0_3
  cases z with
  | false =>
    obtain rfl : DR = zeroOut 1 := HDR.out.symm.trans (newY_no HZ.out)
    go_wp2_with fail
    refine (ill_at 1 _).mono ?_
    rintro e w2 ⟨rfl, hb⟩
    have HB2 := Lib.hid (HB1.out.trans (hb.mono HB1.out.size))
    have Y1 := Lib.hid (Y1.out.call hb)
    clear hb
    have q0 := Y1.out.at_ 0 rfl
    have f0 := Y1.out.soft 0
    have q1 := Y1.out.at_ 1 rfl
    have f1 := Y1.out.soft 1
    have q2 := Y1.out.at_ 2 rfl
    have f2 := Y1.out.soft 2
    have q3 := Y1.out.at_ 3 rfl
    have f3 := Y1.out.soft 3
    have q4 := Y1.out.at_ 4 rfl
    have f4 := Y1.out.soft 4
    have q5 := Y1.out.at_ 5 rfl
    have f5 := Y1.out.soft 5
    have q6 := Y1.out.at_ 6 rfl
    have f6 := Y1.out.soft 6
    have q7 := Y1.out.at_ 7 rfl
    have f7 := Y1.out.soft 7
    have q8 := Y1.out.at_ 8 rfl
    have f8 := Y1.out.soft 8
    have q9 := Y1.out.at_ 9 rfl
    have f9 := Y1.out.soft 9
    have HST := Lib.hid (soff_YardOut w2 (W.heap.size + 1) (.slice none 0 0) (.slice none 0 0) (.slice none 0 0) (.int .i64 0) (.slice none 0 0) (.slice none 0 0) (.slice none 0 0) (.int .i64 0) (.int .i64 0) (.int .i64 1))
    have HSB := Lib.hid (sets_YardOut (w := w2) (g := W.heap.size + 1) (v0 := .slice none 0 0) (v1 := .slice none 0 0) (v2 := .slice none 0 0) (v3 := .int .i64 0) (v4 := .slice none 0 0) (v5 := .slice none 0 0) (v6 := .slice none 0 0) (v7 := .int .i64 0) (v8 := .int .i64 0) (v9 := .int .i64 1) Y1.out)
    have HBF := Lib.hid (bel_off HB2.out HST.out (fun k hk => by rw [hk]; omega) HB2.out.size)
    have r0 := HSB.out.at_ 0 rfl
    have r1 := HSB.out.at_ 1 rfl
    have r2 := HSB.out.at_ 2 rfl
    have r3 := HSB.out.at_ 3 rfl
    have r4 := HSB.out.at_ 4 rfl
    have r5 := HSB.out.at_ 5 rfl
    have r6 := HSB.out.at_ 6 rfl
    have r7 := HSB.out.at_ 7 rfl
    have r8 := HSB.out.at_ 8 rfl
    have r9 := HSB.out.at_ 9 rfl
    go_wp2
    refine bodyPost_ret (v := .agg #[.slice none 0 0, .slice none 0 0, .slice none 0 0, .int .i64 0, .slice none 0 0, .slice none 0 0, .slice none 0 0, .int .i64 0, .int .i64 0, .int .i64 1]) (by simp [results, Tryz.results11, go_sem, *]) rfl ⟨[.slice none 0 0, .slice none 0 0, .slice none 0 0, .int .i64 0, .slice none 0 0, .slice none 0 0, .slice none 0 0, .int .i64 0, .int .i64 0, .int .i64 1], rfl, mk_zero 1, HBF.out⟩
  | true =>
  obtain rfl : DR = _ := HDR.out.symm.trans (newY_yes HZ.out)
  have HCR := Lib.hid (cfgB_iff.1 HZ.out)
  go_upto_region 3 with fail
  refine wp_region_held_drew (S := fun V => Below W.heap.size W V ∧ Blk V W.heap.size 38 #[.slice ca C.length cc, .slice pa P.length pc, .slice qa Q.length qc, .int .i64 hf] ∧ ∃ cs, Blk V (W.heap.size + 1) 49 cs) (by kernel_rfl) (⟨HB1.out.drew, Y0.out.call (Below.refl _ w1).drew, ⟨_, Y1.out.call (Below.refl _ w1).drew⟩⟩) (fun hHeld => ?_)
  refine tk 0 hHeld ?_ (hy := fun w hSw => by (try dsimp only at hSw); have k0 := hSw.2.1.at_ 0 rfl; have k1 := hSw.2.1.at_ 1 rfl; have k2 := hSw.2.1.at_ 2 rfl; have k3 := hSw.2.1.at_ 3 rfl; clear hSw; go_simp; try with_reducible rfl)
  refine tk 2 hHeld ?_
  refine tk 3 hHeld ?_ (hy := fun w hSw => by (try dsimp only at hSw); have k0 := hSw.2.1.at_ 0 rfl; clear hSw; go_simp; try with_reducible rfl)
  refine tk 4 hHeld ?_
  refine rd1 1 (fun K hK => ?_)
  go_simp
  go_at_call 49
  refine (copycfg_spec HCR.out.1 (Nat.le_trans HCR.out.2.2.2.1.1 (by omega)) hq (rd_mv (Sl_ok R_Label_ok) HCW.out hHeld.1) (rd_mv R_Pair_ok HPW.out hHeld.1) (rd_mv R_Quota_ok HQW.out hHeld.1)).mono ?_
  intro e w2 h
  obtain ⟨us, rfl, hu, hb⟩ := newV_elim h
  obtain ⟨a0, c0, a1, c1, a2, c2, rfl, hu⟩ := owc_Config hu
  have HO0 := Lib.hid (show R_Config.ow w2 (Rg w1.heap.size w2.heap.size) (C, P, Q, hf) [.slice a0 C.length c0, .slice a1 P.length c1, .slice a2 Q.length c2, .int .i64 hf] from hu)
  have hz2 : w1.heap.size ≤ w2.heap.size := hb.size
  clear hu
  have Y1 := Lib.hid (Y1.out.call ((Below.refl _ w1).drew.trans hb))
  refine hK.out _ _ ⟨hHeld.1.trans (hb.mono hHeld.1.size), hHeld.2.1.call hb, by obtain ⟨_, hh⟩ := hHeld.2.2; exact ⟨_, hh.call hb⟩⟩ (fun hHeld => ?_)
  clear hK K h hb
  refine rd1 5 (fun K hK => ?_)
  go_simp
  go_at_call 50
  refine (new_spec _ _).mono ?_
  intro e w3 h
  obtain ⟨a3, c3, rfl, ho, hb⟩ := newS_elim h
  have HO3 := Lib.hid ho
  have HO0 := Lib.hid (R_Config_ok.ow_keep HO0.out fun q hq => hb.block q hq.2)
  have hz3 : w2.heap.size ≤ w3.heap.size := hb.size
  clear ho
  have Y1 := Lib.hid (Y1.out.call hb)
  refine hK.out _ _ ⟨hHeld.1.trans (hb.mono hHeld.1.size), hHeld.2.1.call hb, by obtain ⟨_, hh⟩ := hHeld.2.2; exact ⟨_, hh.call hb⟩⟩ (fun hHeld => ?_)
  clear hK K h hb
  refine tk 6 hHeld ?_
  refine tk 7 hHeld ?_
  refine rd1 8 (fun K hK => ?_)
  have q0 := Y1.out.at_ 0 rfl
  have q1 := Y1.out.at_ 1 rfl
  have q2 := Y1.out.at_ 2 rfl
  have q3 := Y1.out.at_ 3 rfl
  have q4 := Y1.out.at_ 4 rfl
  have q5 := Y1.out.at_ 5 rfl
  have q6 := Y1.out.at_ 6 rfl
  have q7 := Y1.out.at_ 7 rfl
  have q8 := Y1.out.at_ 8 rfl
  have q9 := Y1.out.at_ 9 rfl
  have f0 := Y1.out.soft 0
  have f1 := Y1.out.soft 1
  have f2 := Y1.out.soft 2
  have f3 := Y1.out.soft 3
  have f4 := Y1.out.soft 4
  have f5 := Y1.out.soft 5
  have f6 := Y1.out.soft 6
  have f7 := Y1.out.soft 7
  have f8 := Y1.out.soft 8
  have f9 := Y1.out.soft 9
  go_simp
  have HST := Lib.hid (soff_YardOut w3 (W.heap.size + 1) (.slice a0 C.length c0) (.slice a1 P.length c1) (.slice a2 Q.length c2) (.int .i64 hf) (.slice a3 (newV (C.length : Int)).length c3) (.slice none 0 0) (.slice none 0 0) (.int .i64 0) (.int .i64 0) (.int .i64 0))
  have HSB := Lib.hid (sets_YardOut (w := w3) (g := W.heap.size + 1) (v0 := .slice a0 C.length c0) (v1 := .slice a1 P.length c1) (v2 := .slice a2 Q.length c2) (v3 := .int .i64 hf) (v4 := .slice a3 (newV (C.length : Int)).length c3) (v5 := .slice none 0 0) (v6 := .slice none 0 0) (v7 := .int .i64 0) (v8 := .int .i64 0) (v9 := .int .i64 0) Y1.out)
  refine hK.out _ _ ⟨bel_off hHeld.1 HST.out (fun k hk => by rw [hk]; omega) hHeld.1.size, Blk.off hHeld.2.1 HST.out hHeld.2.1.lt (by omega), ⟨_, HSB.out⟩⟩ (fun hHeld => ?_)
  clear hK K q0 f0 q1 f1 q2 f2 q3 f3 q4 f4 q5 f5 q6 f6 q7 f7 q8 f8 q9 f9
  refine rd0 ?_
  have HBF := Lib.hid hHeld.1
  clear hHeld
  have r0 := HSB.out.at_ 0 rfl
  have r1 := HSB.out.at_ 1 rfl
  have r2 := HSB.out.at_ 2 rfl
  have r3 := HSB.out.at_ 3 rfl
  have r4 := HSB.out.at_ 4 rfl
  have r5 := HSB.out.at_ 5 rfl
  have r6 := HSB.out.at_ 6 rfl
  have r7 := HSB.out.at_ 7 rfl
  have r8 := HSB.out.at_ 8 rfl
  have r9 := HSB.out.at_ 9 rfl
  go_wp2
  refine bodyPost_ret (v := .agg #[.slice a0 C.length c0, .slice a1 P.length c1, .slice a2 Q.length c2, .int .i64 hf, .slice a3 (newV (C.length : Int)).length c3, .slice none 0 0, .slice none 0 0, .int .i64 0, .int .i64 0, .int .i64 0]) (by simp [results, Tryz.results11, go_sem, *]) rfl ⟨[.slice a0 C.length c0, .slice a1 P.length c1, .slice a2 Q.length c2, .int .i64 hf, .slice a3 (newV (C.length : Int)).length c3, .slice none 0 0, .slice none 0 0, .int .i64 0, .int .i64 0, .int .i64 0], rfl, ?_, HBF.out⟩
  have hsz := HST.out.size
  have hoff : ∀ q, w1.heap.size ≤ q → q < w3.heap.size → q < w3.heap.size ∧ ¬ q = W.heap.size + 1 := fun q h1 h2 => ⟨h2, by omega⟩
  exact mk_out (cs := [.slice a0 C.length c0, .slice a1 P.length c1, .slice a2 Q.length c2, .int .i64 hf, .slice a3 (newV (C.length : Int)).length c3, .slice none 0 0, .slice none 0 0, .int .i64 0]) (mk_yard (cs := [.slice a0 C.length c0, .slice a1 P.length c1, .slice a2 Q.length c2, .int .i64 hf]) (S := Rg W.heap.size _) (SC := Rg w1.heap.size w2.heap.size) (SN := Rg w2.heap.size w3.heap.size) (ST := fun _ => False) (SU := fun _ => False) (fun k hk => ⟨by have := hk.1; omega, by have := hk.2; omega⟩) (fun k hk => ⟨by have := hk.1; omega, by have := hk.2; omega⟩) (fun k h => h.elim) (fun k h => h.elim) (fun k h h' => by have h1 := h.2; have h2 := h'.1; omega) (fun k h h' => h'.elim) (fun k h h' => h'.elim) (fun k h h' => h'.elim) (fun k h h' => h'.elim) (fun k h h' => h'.elim) (R_Config_ok.ow_keep HO0.out fun q hq => HST.out.block q (by have := hq.2; omega) (by have := hq.1; show ¬ q = W.heap.size + 1; omega)) (ow_off R_Node_ok HO3.out HST.out fun q hq => hoff q (by have := hq.1; omega) hq.2) ow_nil ow_nil)
end Go.Proofs.YtelhmacfljffhaaGreat.RepC
end
section
namespace Go.Proofs.YtelhmacfljffhaaGreat.RepC
open Go.RowKit RowC ValC SpanC KeptC CfC
set_option linter.unusedVariables false
set_option linter.unusedSimpArgs false
theorem below_rP {a b : Lb} (ha : LabC.rP a.1 a.2) (hb : LabC.rP b.1 b.2) : LabC.belowB a.1 a.2 b.1 b.2 = LabC.bB a.1 a.2 b.1 b.2 := LabC.below_yes ((LabC.rB_iff _ _).2 ha) ((LabC.rB_iff _ _).2 hb)
theorem pairix_at {P : List D_Pair} {pa : Option Addr} {pc n : Nat} {f0 f1 t0 t1 ix : Int} {W : World} (hn : P.length = n) (hix : ixP P (f0, f1) (t0, t1) = ix) (hP : RdSl R_Pair W W.heap.size P pa pc) :
    Calls Tryz.prog 145 #[.slice pa n pc, .agg #[.int .i64 f0, .int .i64 f1], .agg #[.int .i64 t0, .int .i64 t1]] W (IsI ix W) := by
  subst hn hix
  exact pairix_impl hP
set_option maxRecDepth 100000 in
set_option maxHeartbeats 3200000 in
theorem pairs_impl {L : List D_Label} {P : List D_Pair} {la pa : Option Addr} {lc pc : Nat} {W : World} (hLR : ∀ a ∈ L, LabC.rP a.1 a.2) (hL : RdSl R_Label W W.heap.size L la lc) (hP : RdSl R_Pair W W.heap.size P pa pc) :
    Calls Tryz.prog 88 #[.slice pa P.length pc, .slice la L.length lc] W (ResB (PairsR L P) W) := by
  have hn : P.length ≤ 9223372036854775807 := by have h1 := hP.1; have h2 := hP.2.1; unfold maxLen at h2; omega
  have hpc := hP.1
  have HL := Lib.hid hL
  have HP := Lib.hid hP
  have HLR := Lib.hid hLR
  clear hL hP hLR
  by_cases h4 : P.length ≤ 4
  rotate_left
  · have hd : decide ((P.length : Int) > 4) = true := decide_eq_true (by omega)
    have hd' : decide (4 < P.length) = true := decide_eq_true (by omega)
    have HN := Lib.hid (show ¬ PairsR L P from fun h => h4 h.1)
    go_enter Tryz.func88, Tryz.ntmps88
    go_wp2
    go_ret
    exact resB_no HN.out (Below.refl _ _)
  have hd : decide ((P.length : Int) > 4) = false := decide_eq_false (by omega)
  have hd' : decide (4 < P.length) = false := decide_eq_false (by omega)
  go_enter Tryz.func88, Tryz.ntmps88
  go_wp2
  go_loopw [12] (fun i wr => ∃ k : Nat, k ≤ P.length ∧ i = .int .i64 k ∧ Hid (∀ (j : Nat) x, j < k → P[j]? = some x → okP L P j x) ∧ Below W.heap.size W wr) (fun i _ => P.length - (intOf i).toNat)
  case atStart => exact ⟨0, Nat.zero_le _, rfl, Lib.hid fun j x h => absurd h (Nat.not_lt_zero _), Below.refl _ _⟩
  case round =>
    obtain ⟨k, hk, rfl, HA, hB⟩ := hrel
    obtain ⟨wo, rfl⟩ : ∃ x, x = wr := ⟨_, rfl⟩
    have HB := Lib.hid hB
    have hsz := hB.size
    by_cases hlt : k < P.length
    · have hdl : decide ((k : Int) < (P.length : Int)) = true := decide_eq_true (by omega)
      obtain ⟨⟨⟨x0, x1⟩, ⟨x2, x3⟩, x4⟩, hx⟩ := el_some hlt
      have HX := Lib.hid hx
      obtain ⟨g, o, us, rfl, hg, hu, hr⟩ := (HP.out.below R_Pair_ok hB).at_ hx
      obtain rfl := rd_Pair hr
      have e0 : wo.cell? ⟨g, o + k * 5, none⟩ = some (.int .i64 x0) := by simpa [size_PairS, Nat.add_assoc] using hu 0 _ rfl
      have e1 : wo.cell? ⟨g, o + k * 5 + 1, none⟩ = some (.int .i64 x1) := by simpa [size_PairS, Nat.add_assoc] using hu 1 _ rfl
      have e2 : wo.cell? ⟨g, o + k * 5 + 2, none⟩ = some (.int .i64 x2) := by simpa [size_PairS, Nat.add_assoc] using hu 2 _ rfl
      have e3 : wo.cell? ⟨g, o + k * 5 + 3, none⟩ = some (.int .i64 x3) := by simpa [size_PairS, Nat.add_assoc] using hu 3 _ rfl
      have e4 : wo.cell? ⟨g, o + k * 5 + 4, none⟩ = some (.int .i64 x4) := by simpa [size_PairS, Nat.add_assoc] using hu 4 _ rfl
      have hi0 : (0 : Int) ≤ (k : Int) := Int.natCast_nonneg _
      have hi1 : (k : Int) < (P.length : Int) := by omega
      obtain ⟨w1, hw1⟩ : ∃ w, w = wo.alloc (.cells #[.int .i64 x0, .int .i64 x1, .int .i64 x2, .int .i64 x3, .int .i64 x4] 149) := ⟨_, rfl⟩
      have hbA : Below wo.heap.size wo w1 := by rw [hw1]; exact (Below.refl _ _).alloc (Nat.le_refl _) _
      have HP1 := Lib.hid (show Blk w1 wo.heap.size 149 #[.int .i64 x0, .int .i64 x1, .int .i64 x2, .int .i64 x3, .int .i64 x4] from by rw [hw1]; exact Blk.new _ _ _)
      have HB1 := Lib.hid (HB.out.trans (hbA.mono hsz))
      have HL1 := Lib.hid (rd_mv R_Label_ok HL.out HB1.out)
      have hz1 := HB1.out.size
      have q0 := HP1.out.at_ 0 rfl
      have q1 := HP1.out.at_ 1 rfl
      have q2 := HP1.out.at_ 2 rfl
      have q3 := HP1.out.at_ 3 rfl
      have q4 := HP1.out.at_ 4 rfl
      clear hB hx hu hr
      go_wp2_with fail
      rw [← hw1]
      clear hw1 hbA e0 e1 e2 e3 e4
      refine (contains_lab HL1.out).mono ?_
      intro e w2 h
      obtain ⟨z, rfl, hz, hb⟩ := resB_elim h
      have HZ1 := Lib.hid hz
      have HB2 := Lib.hid (HB1.out.trans (hb.mono hz1))
      have HL2 := Lib.hid (rd_mv R_Label_ok HL1.out hb)
      have HP2 := Lib.hid (HP1.out.call hb)
      have hz2 := HB2.out.size
      clear h hz hb q0 q1 q2 q3 q4 HP1
      have q0 := HP2.out.at_ 0 rfl
      have q1 := HP2.out.at_ 1 rfl
      have q2 := HP2.out.at_ 2 rfl
      have q3 := HP2.out.at_ 3 rfl
      have q4 := HP2.out.at_ 4 rfl
      cases z with
      | false =>
        have HN := Lib.hid (show ¬ PairsR L P from fun h => by have := HZ1.out.2 (h.2 k _ HX.out).1; cases this)
        go_wp2
        go_ret
        exact resB_no HN.out HB2.out
      | true =>
      have HM1 := Lib.hid (HZ1.out.1 rfl)
      go_wp2_with fail
      refine (contains_lab HL2.out).mono ?_
      intro e w3 h
      obtain ⟨z, rfl, hz, hb⟩ := resB_elim h
      have HZ2 := Lib.hid hz
      have HB3 := Lib.hid (HB2.out.trans (hb.mono hz2))
      have HP3 := Lib.hid (HP2.out.call hb)
      have hz3 := HB3.out.size
      clear h hz hb q0 q1 q2 q3 q4 HP2
      have q0 := HP3.out.at_ 0 rfl
      have q1 := HP3.out.at_ 1 rfl
      have q2 := HP3.out.at_ 2 rfl
      have q3 := HP3.out.at_ 3 rfl
      have q4 := HP3.out.at_ 4 rfl
      cases z with
      | false =>
        have HN := Lib.hid (show ¬ PairsR L P from fun h => by have := HZ2.out.2 (h.2 k _ HX.out).2.1; cases this)
        go_wp2
        go_ret
        exact resB_no HN.out HB3.out
      | true =>
      have HM2 := Lib.hid (HZ2.out.1 rfl)
      obtain ⟨z3, hz3e⟩ : ∃ z, LabC.belowB x0 x1 x2 x3 = z := ⟨_, rfl⟩
      have HZ3 := Lib.hid hz3e
      have HZB := Lib.hid ((below_rP (HLR.out _ HM1.out) (HLR.out _ HM2.out)).symm.trans hz3e)
      clear hz3e
      go_wp2_with fail
      refine (bi_at _ _ _ _ HZ3.out _).mono ?_
      rintro e w4 ⟨rfl, hb⟩
      have HB4 := Lib.hid (HB3.out.trans (hb.mono hz3))
      have HP4 := Lib.hid (HP3.out.call hb)
      have HPk := Lib.hid (rd_mv R_Pair_ok HP.out HB4.out)
      have hz4 := HB4.out.size
      clear hb q0 q1 q2 q3 q4 HP3
      have q0 := HP4.out.at_ 0 rfl
      have q1 := HP4.out.at_ 1 rfl
      have q2 := HP4.out.at_ 2 rfl
      have q3 := HP4.out.at_ 3 rfl
      have q4 := HP4.out.at_ 4 rfl
      cases z3 with
      | true =>
        have HN := Lib.hid (show ¬ PairsR L P from fun h => by have := (h.2 k _ HX.out).2.2.1; rw [HZB.out] at this; cases this)
        go_wp2
        go_ret
        exact resB_no HN.out HB4.out
      | false =>
      obtain ⟨z4, hz4e⟩ : ∃ z, isB x4 1 3 = z := ⟨_, rfl⟩
      have HZ4 := Lib.hid hz4e
      have hkc : (k : Int) ≤ (pc : Int) := by omega
      have hkc2 : k ≤ pc := by omega
      clear hz4e q0 q1 q2 q3 q4
      cases z4 with
      | false =>
        have HN := Lib.hid (show ¬ PairsR L P from fun h => by have := (h.2 k _ HX.out).2.2.2.1; rw [HZ4.out] at this; cases this)
        go_wp2_with fail
        refine wp_region_held_drew (S := (fun V => Below (w4).heap.size (w4) V)) (by kernel_rfl) ((Below.refl _ _).drew) (fun hHeld => ?_)
        refine tk 0 hHeld ?_
        refine tk 1 hHeld ?_ (hy := fun w hSw => by (try dsimp only at hSw); have k0 := (hSw.cell (p := ⟨wo.heap.size, 4, none⟩) HP4.out.lt).trans (HP4.out.at_ 4 rfl); clear hSw; go_simp; try with_reducible rfl)
        refine rd1 2 (fun K hK => ?_)
        go_simp
        go_at_call 90
        refine (wi_at _ _ _ HZ4.out _).mono ?_
        rintro e w5 ⟨rfl, rfl⟩
        have hb := Below.refl w4.drew.heap.size w4.drew
        refine hK.out _ _ (hHeld.trans (hb.mono hHeld.size)) (fun hHeld => ?_)
        clear hK K hb
        refine tk 3 hHeld ?_
        refine tk 4 hHeld ?_
        refine tn 5 hHeld ?_
        refine tn 6 hHeld ?_
        refine tn 7 hHeld ?_
        refine tn 8 hHeld ?_
        refine tn 9 hHeld ?_
        refine tn 10 hHeld ?_
        refine tn 11 hHeld ?_
        refine tn 12 hHeld ?_
        refine tn 13 hHeld ?_
        refine tk 14 hHeld ?_
        refine rd0 ?_
        have HF := Lib.hid hHeld
        clear hHeld
        have HB5 := Lib.hid (HB4.out.trans (HF.out.mono hz4))
        clear HF
        go_wp2
        go_ret
        exact resB_no HN.out HB5.out
      | true =>
      have hkt : (P.take k).length = k := by rw [List.length_take]; omega
      obtain ⟨ix, hix⟩ : ∃ i, ixP (P.take k) (x0, x1) (x2, x3) = i := ⟨_, rfl⟩
      have HIX := Lib.hid hix
      by_cases hge : 0 ≤ ix
      · have hdg : decide (ix ≥ 0) = true := decide_eq_true hge
        have hdg2 : decide (0 ≤ ix) = true := decide_eq_true hge
        have HN := Lib.hid (show ¬ PairsR L P from fun h => by
          obtain ⟨q, y, hy, hh⟩ := ixP_ge.1 (by rw [hix]; exact hge)
          have hqk : q < k := by have := el_lt hy; omega
          rw [List.getElem?_take, if_pos hqk] at hy
          exact (h.2 k _ HX.out).2.2.2.2 q y hqk hy hh)
        clear hix hge
        go_wp2_with fail
        refine wp_region_held_drew (S := (fun V => Below (w4).heap.size (w4) V)) (by kernel_rfl) ((Below.refl _ _).drew) (fun hHeld => ?_)
        refine tk 0 hHeld ?_
        refine tk 1 hHeld ?_ (hy := fun w hSw => by (try dsimp only at hSw); have k0 := (hSw.cell (p := ⟨wo.heap.size, 4, none⟩) HP4.out.lt).trans (HP4.out.at_ 4 rfl); clear hSw; go_simp; try with_reducible rfl)
        refine rd1 2 (fun K hK => ?_)
        go_simp
        go_at_call 90
        refine (wi_at _ _ _ HZ4.out _).mono ?_
        rintro e w5 ⟨rfl, rfl⟩
        have hb := Below.refl w4.drew.heap.size w4.drew
        refine hK.out _ _ (hHeld.trans (hb.mono hHeld.size)) (fun hHeld => ?_)
        clear hK K hb
        refine tk 3 hHeld ?_
        refine tk 4 hHeld ?_
        refine tk 5 hHeld ?_
        refine tk 6 hHeld ?_
        refine tk 7 hHeld ?_
        refine tk 8 hHeld ?_
        refine tk 9 hHeld ?_ (hy := fun w hSw => by (try dsimp only at hSw); have k0 := (hSw.cell (p := ⟨wo.heap.size, 0, none⟩) HP4.out.lt).trans (HP4.out.at_ 0 rfl); have k1 := (hSw.cell (p := ⟨wo.heap.size, 1, none⟩) HP4.out.lt).trans (HP4.out.at_ 1 rfl); clear hSw; go_simp; try with_reducible rfl)
        refine tk 10 hHeld ?_
        refine tk 11 hHeld ?_ (hy := fun w hSw => by (try dsimp only at hSw); have k0 := (hSw.cell (p := ⟨wo.heap.size, 2, none⟩) HP4.out.lt).trans (HP4.out.at_ 2 rfl); have k1 := (hSw.cell (p := ⟨wo.heap.size, 3, none⟩) HP4.out.lt).trans (HP4.out.at_ 3 rfl); clear hSw; go_simp; try with_reducible rfl)
        refine rd1 12 (fun K hK => ?_)
        go_simp
        go_at_call 145
        refine (pairix_at hkt HIX.out (rd_take (rd_mv R_Pair_ok HPk.out hHeld) k)).mono ?_
        intro e w6 h
        obtain ⟨rfl, hb⟩ := isI_elim h
        clear h
        refine hK.out _ _ (hHeld.trans (hb.mono hHeld.size)) (fun hHeld => ?_)
        clear hK K hb
        refine tk 13 hHeld ?_
        refine tk 14 hHeld ?_
        refine rd0 ?_
        have HF := Lib.hid hHeld
        clear hHeld
        have HB5 := Lib.hid (HB4.out.trans (HF.out.mono hz4))
        clear HF
        go_wp2
        go_ret
        exact resB_no HN.out HB5.out
      · have hdg : decide (ix ≥ 0) = false := decide_eq_false hge
        have hdg2 : decide (0 ≤ ix) = false := decide_eq_false hge
        have HA2 := Lib.hid (show ∀ (j : Nat) x, j < k + 1 → P[j]? = some x → okP L P j x from fun q y hq hy => by
          by_cases e : q = k
          · subst e; rw [HX.out] at hy; obtain rfl := Option.some.inj hy
            refine ⟨HM1.out, HM2.out, HZB.out, HZ4.out, fun r z hr hz hh => hge ?_⟩
            rw [← hix]
            exact ixP_ge.2 ⟨r, z, by rw [List.getElem?_take, if_pos hr]; exact hz, hh⟩
          · exact HA.out q y (by omega) hy)
        clear hix hge
        go_wp2_with fail
        refine wp_region_held_drew (S := (fun V => Below (w4).heap.size (w4) V)) (by kernel_rfl) ((Below.refl _ _).drew) (fun hHeld => ?_)
        refine tk 0 hHeld ?_
        refine tk 1 hHeld ?_ (hy := fun w hSw => by (try dsimp only at hSw); have k0 := (hSw.cell (p := ⟨wo.heap.size, 4, none⟩) HP4.out.lt).trans (HP4.out.at_ 4 rfl); clear hSw; go_simp; try with_reducible rfl)
        refine rd1 2 (fun K hK => ?_)
        go_simp
        go_at_call 90
        refine (wi_at _ _ _ HZ4.out _).mono ?_
        rintro e w5 ⟨rfl, rfl⟩
        have hb := Below.refl w4.drew.heap.size w4.drew
        refine hK.out _ _ (hHeld.trans (hb.mono hHeld.size)) (fun hHeld => ?_)
        clear hK K hb
        refine tk 3 hHeld ?_
        refine tk 4 hHeld ?_
        refine tk 5 hHeld ?_
        refine tk 6 hHeld ?_
        refine tk 7 hHeld ?_
        refine tk 8 hHeld ?_
        refine tk 9 hHeld ?_ (hy := fun w hSw => by (try dsimp only at hSw); have k0 := (hSw.cell (p := ⟨wo.heap.size, 0, none⟩) HP4.out.lt).trans (HP4.out.at_ 0 rfl); have k1 := (hSw.cell (p := ⟨wo.heap.size, 1, none⟩) HP4.out.lt).trans (HP4.out.at_ 1 rfl); clear hSw; go_simp; try with_reducible rfl)
        refine tk 10 hHeld ?_
        refine tk 11 hHeld ?_ (hy := fun w hSw => by (try dsimp only at hSw); have k0 := (hSw.cell (p := ⟨wo.heap.size, 2, none⟩) HP4.out.lt).trans (HP4.out.at_ 2 rfl); have k1 := (hSw.cell (p := ⟨wo.heap.size, 3, none⟩) HP4.out.lt).trans (HP4.out.at_ 3 rfl); clear hSw; go_simp; try with_reducible rfl)
        refine rd1 12 (fun K hK => ?_)
        go_simp
        go_at_call 145
        refine (pairix_at hkt HIX.out (rd_take (rd_mv R_Pair_ok HPk.out hHeld) k)).mono ?_
        intro e w6 h
        obtain ⟨rfl, hb⟩ := isI_elim h
        clear h
        refine hK.out _ _ (hHeld.trans (hb.mono hHeld.size)) (fun hHeld => ?_)
        clear hK K hb
        refine tk 13 hHeld ?_
        refine tk 14 hHeld ?_
        refine rd0 ?_
        have HF := Lib.hid hHeld
        clear hHeld
        have HB5 := Lib.hid (HB4.out.trans (HF.out.mono hz4))
        clear HF
        go_wp2
        go_roundw
        case rel => exact ⟨k + 1, by omega, by go_num, HA2, HB5.out⟩
        case measure => simp [intOf]; omega
    · have hdl : decide ((k : Int) < (P.length : Int)) = false := decide_eq_false (by omega)
      have HY := Lib.hid (show PairsR L P from ⟨h4, fun i x hx => HA.out i x (by have := el_lt hx; omega) hx⟩)
      clear hB
      go_wp2
      go_ret
      exact resB_yes HY.out HB.out
end Go.Proofs.YtelhmacfljffhaaGreat.RepC
end
