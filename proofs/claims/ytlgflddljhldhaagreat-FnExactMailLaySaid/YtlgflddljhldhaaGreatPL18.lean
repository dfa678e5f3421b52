/- Of this claim's texts the part 18: ClrI CfL3 CfL4 CfI. -/
import Derived.Test.YtlgflddljhldhaaGreatPL12
import Derived.Test.YtlgflddljhldhaaGreatPL17
section
namespace Go.Proofs.YtlgflddljhldhaaGreat.RepC
open Go.RowKit RowC ValC SpanC KeptC
set_option linter.unusedVariables false
set_option linter.unusedSimpArgs false
theorem ri_at (l s : Int) {b : Bool} (hb : LabC.rB l s = b) (w : World) : Calls Tryz.prog 95 #[.agg #[.int .i64 l, .int .i64 s]] w fun e w' => e = .returned (.bool b) ∧ Below w.heap.size w w' := by
  subst hb; exact LabC.ri_w l s w
theorem bi_at (l s m t : Int) {b : Bool} (hb : LabC.belowB l s m t = b) (w : World) : Calls Tryz.prog 65 #[.agg #[.int .i64 l, .int .i64 s], .agg #[.int .i64 m, .int .i64 t]] w fun e w' => e = .returned (.bool b) ∧ Below w.heap.size w w' := by
  subst hb; exact LabC.below_impl l s m t w
def IxR (p : Prop) (w : World) (e : Ending) (w' : World) : Prop := ∃ i : Int, e = .returned (.int .i64 i) ∧ (0 ≤ i ↔ p) ∧ Below w.heap.size w w'
theorem ixR_elim {p : Prop} {w : World} {e : Ending} {w' : World} (h : IxR p w e w') : ∃ i : Int, e = .returned (.int .i64 i) ∧ (0 ≤ i ↔ p) ∧ Below w.heap.size w w' := h
set_option maxRecDepth 100000 in
set_option maxHeartbeats 3200000 in
theorem index_lab {L : List D_Label} {a : Option Addr} {cap : Nat} {l s : Int} {W : World} (h : RdSl R_Label W W.heap.size L a cap) :
    Calls Tryz.prog 137 #[.slice a L.length cap, .agg #[.int .i64 l, .int .i64 s]] W (IxR ((l, s) ∈ L) W) := by
  have hn : L.length ≤ 9223372036854775807 := by have h1 := h.1; have h2 := h.2.1; unfold maxLen at h2; omega
  have H := Lib.hid h
  clear h
  have HB0 := Lib.hid (show Below W.heap.size W (W.alloc (.cells #[.int .i64 l, .int .i64 s] 47)) from (Below.refl _ _).alloc (Nat.le_refl _) _)
  have HP0 := Lib.hid (Blk.new W 47 #[.int .i64 l, .int .i64 s])
  go_enter Tryz.func137, Tryz.ntmps137
  go_wp2
  go_loopw [8] (fun i wr => ∃ k : Nat, k ≤ L.length ∧ i = .int .i64 k ∧ Hid ((l, s) ∉ L.take k) ∧ Below W.heap.size W wr ∧ Hid (Blk wr W.heap.size 47 #[.int .i64 l, .int .i64 s])) (fun i _ => L.length - (intOf i).toNat)
  case atStart => exact ⟨0, Nat.zero_le _, rfl, Lib.hid (by simp), HB0.out, HP0⟩
  case round =>
    obtain ⟨k, hk, rfl, HA, hB, HP⟩ := hrel
    have HB := Lib.hid hB
    have hsz := hB.size
    by_cases hlt : k < L.length
    · obtain ⟨⟨x0, x1⟩, hx⟩ := el_some hlt
      have HX := Lib.hid hx
      obtain ⟨g, o, us, rfl, hg, hu, hr⟩ := (H.out.below R_Label_ok hB).at_ hx
      obtain rfl := rd_Label hr
      have e0 : wr.cell? ⟨g, o + k * 2, none⟩ = some (.int .i64 x0) := by simpa [size_Lab, Nat.add_assoc] using hu 0 _ rfl
      have e1 : wr.cell? ⟨g, o + k * 2 + 1, none⟩ = some (.int .i64 x1) := by simpa [size_Lab, Nat.add_assoc] using hu 1 _ rfl
      have hgl : g < wr.heap.size := Nat.lt_of_lt_of_le hg hsz
      have hi0 : (0 : Int) ≤ (k : Int) := Int.natCast_nonneg _
      have hi1 : (k : Int) < (L.length : Int) := by omega
      have hq0 := HP.out.at_ 0 rfl
      have hq1 := HP.out.at_ 1 rfl
      have hpl := HP.out.lt
      clear hB hx hu hr
      cases c1 : (l == x0) with
      | false =>
        have HC := Lib.hid (show (l, s) ∉ L.take (k + 1) from by rw [List.take_add_one, HX.out]; simp at c1 ⊢; exact ⟨HA.out, fun e => absurd e c1⟩)
        go_wp2_with fail
        refine wp_region_held_drew (S := (fun V => Below (wr).heap.size (wr) V)) (by kernel_rfl) ((Below.refl _ _).drew) (fun hHeld => ?_)
        refine tk 0 hHeld ?_ (hy := fun w hSw => by (try dsimp only at hSw); have k0 := (hSw.cell (p := ⟨W.heap.size, 0, none⟩) hpl).trans hq0; have k1 := (hSw.cell (p := ⟨W.heap.size, 1, none⟩) hpl).trans hq1; clear hSw; go_simp; try with_reducible rfl)
        refine tk 1 hHeld ?_
        refine tk 2 hHeld ?_
        refine tk 3 hHeld ?_
        refine tk 4 hHeld ?_ (hy := fun w hSw => by (try dsimp only at hSw); have k0 := (hSw.cell (p := ⟨g, o + k * 2, none⟩) hgl).trans e0; have k1 := (hSw.cell (p := ⟨g, o + k * 2 + 1, none⟩) hgl).trans e1; clear hSw; go_simp; try with_reducible rfl)
        refine tk 5 hHeld ?_
        refine rd0 ?_
        have HF := Lib.hid hHeld
        clear hHeld
        have HB3 := Lib.hid (HB.out.trans (HF.out.mono hsz))
        have HP3 := Lib.hid (HP.out.call HF.out)
        clear HF
        go_wp2
        go_roundw
        case rel => exact ⟨k + 1, by omega, by go_num, HC, HB3.out, HP3⟩
        case measure => simp [intOf]; omega
      | true =>
        cases c2 : (s == x1) with
        | false =>
          have HC := Lib.hid (show (l, s) ∉ L.take (k + 1) from by rw [List.take_add_one, HX.out]; simp at c2 ⊢; exact ⟨HA.out, fun _ e => absurd e c2⟩)
          go_wp2_with fail
          refine wp_region_held_drew (S := (fun V => Below (wr).heap.size (wr) V)) (by kernel_rfl) ((Below.refl _ _).drew) (fun hHeld => ?_)
          refine tk 0 hHeld ?_ (hy := fun w hSw => by (try dsimp only at hSw); have k0 := (hSw.cell (p := ⟨W.heap.size, 0, none⟩) hpl).trans hq0; have k1 := (hSw.cell (p := ⟨W.heap.size, 1, none⟩) hpl).trans hq1; clear hSw; go_simp; try with_reducible rfl)
          refine tk 1 hHeld ?_
          refine tk 2 hHeld ?_
          refine tk 3 hHeld ?_
          refine tk 4 hHeld ?_ (hy := fun w hSw => by (try dsimp only at hSw); have k0 := (hSw.cell (p := ⟨g, o + k * 2, none⟩) hgl).trans e0; have k1 := (hSw.cell (p := ⟨g, o + k * 2 + 1, none⟩) hgl).trans e1; clear hSw; go_simp; try with_reducible rfl)
          refine tk 5 hHeld ?_
          refine rd0 ?_
          have HF := Lib.hid hHeld
          clear hHeld
          have HB3 := Lib.hid (HB.out.trans (HF.out.mono hsz))
          have HP3 := Lib.hid (HP.out.call HF.out)
          clear HF
          go_wp2
          go_roundw
          case rel => exact ⟨k + 1, by omega, by go_num, HC, HB3.out, HP3⟩
          case measure => simp [intOf]; omega
        | true =>
          have HY := Lib.hid (show (l, s) ∈ L from by rw [beq_iff_eq] at c1 c2; subst c1 c2; exact List.mem_of_getElem? HX.out)
          go_wp2_with fail
          refine wp_region_held_drew (S := (fun V => Below (wr).heap.size (wr) V)) (by kernel_rfl) ((Below.refl _ _).drew) (fun hHeld => ?_)
          refine tk 0 hHeld ?_ (hy := fun w hSw => by (try dsimp only at hSw); have k0 := (hSw.cell (p := ⟨W.heap.size, 0, none⟩) hpl).trans hq0; have k1 := (hSw.cell (p := ⟨W.heap.size, 1, none⟩) hpl).trans hq1; clear hSw; go_simp; try with_reducible rfl)
          refine tk 1 hHeld ?_
          refine tk 2 hHeld ?_
          refine tk 3 hHeld ?_
          refine tk 4 hHeld ?_ (hy := fun w hSw => by (try dsimp only at hSw); have k0 := (hSw.cell (p := ⟨g, o + k * 2, none⟩) hgl).trans e0; have k1 := (hSw.cell (p := ⟨g, o + k * 2 + 1, none⟩) hgl).trans e1; clear hSw; go_simp; try with_reducible rfl)
          refine tk 5 hHeld ?_
          refine rd0 ?_
          have HF := Lib.hid hHeld
          clear hHeld
          have HB3 := Lib.hid (HB.out.trans (HF.out.mono hsz))
          clear HF
          go_wp2
          go_ret
          exact ⟨_, rfl, ⟨fun _ => HY.out, fun _ => hi0⟩, HB3.out⟩
    · have HN := Lib.hid (show (l, s) ∉ L from by have h := HA.out; rw [List.take_of_length_le (by omega)] at h; exact h)
      have hd : decide ((k : Int) < (L.length : Int)) = false := decide_eq_false (by omega)
      clear hB
      go_wp2
      go_ret
      exact ⟨_, rfl, ⟨fun h => by omega, fun h => absurd h HN.out⟩, HB.out⟩
set_option maxRecDepth 100000 in
set_option maxHeartbeats 1600000 in
theorem contains_lab {L : List D_Label} {a : Option Addr} {cap : Nat} {l s : Int} {W : World} (h : RdSl R_Label W W.heap.size L a cap) :
    Calls Tryz.prog 130 #[.slice a L.length cap, .agg #[.int .i64 l, .int .i64 s]] W (ResB ((l, s) ∈ L) W) := by
  have HB0 := Lib.hid (show Below W.heap.size W (W.alloc (.cells #[.int .i64 l, .int .i64 s] 47)) from (Below.refl _ _).alloc (Nat.le_refl _) _)
  have H := Lib.hid (rd_mv R_Label_ok h HB0.out)
  have HZ := HB0.out.size
  clear h
  go_enter Tryz.func130, Tryz.ntmps130
  go_wp2_with fail
  refine (index_lab H.out).mono ?_
  intro e w1 h
  obtain ⟨i, rfl, hi, hb⟩ := ixR_elim h
  have HB1 := Lib.hid (HB0.out.trans (hb.mono HZ))
  have HI := Lib.hid hi
  clear h hi hb
  by_cases h0 : 0 ≤ i
  · have hd : decide (0 ≤ i) = true := decide_eq_true h0
    have HY := Lib.hid (HI.out.1 h0)
    clear h0
    go_wp2
    go_ret
    exact resB_yes HY.out HB1.out
  · have hd : decide (0 ≤ i) = false := decide_eq_false h0
    have HY := Lib.hid (show (l, s) ∉ L from fun h => h0 (HI.out.2 h))
    clear h0
    go_wp2
    go_ret
    exact resB_no HY.out HB1.out
set_option maxRecDepth 100000 in
set_option maxHeartbeats 3200000 in
theorem chain_im {L : List D_Label} {a : Option Addr} {cap : Nat} {W : World} (h : RdSl R_Label W W.heap.size L a cap) :
    Calls Tryz.prog 125 #[.slice a L.length cap] W (ResB (ChainR L) W) := by
  have H := Lib.hid h
  clear h
  by_cases n1 : 1 ≤ L.length
  rotate_left
  · have hd : decide ((L.length : Int) < 1) = true := decide_eq_true (by omega)
    have HN := Lib.hid (show ¬ ChainR L from fun h => n1 h.1)
    go_enter Tryz.func125, Tryz.ntmps125
    go_wp2
    go_ret
    exact resB_no HN.out (Below.refl _ _)
  have hd1 : decide ((L.length : Int) < 1) = false := decide_eq_false (by omega)
  by_cases n4 : L.length ≤ 4
  rotate_left
  · have hd : decide (4 < (L.length : Int)) = true := decide_eq_true (by omega)
    have HN := Lib.hid (show ¬ ChainR L from fun h => n4 h.2.1)
    go_enter Tryz.func125, Tryz.ntmps125
    go_wp2
    go_ret
    exact resB_no HN.out (Below.refl _ _)
  have hd4 : decide (4 < (L.length : Int)) = false := decide_eq_false (by omega)
  obtain ⟨⟨x0, x1⟩, hx⟩ := el_some (L := L) (k := 0) (by omega)
  have HX := Lib.hid hx
  obtain ⟨g, o, us, rfl, hg, hu, hr⟩ := H.out.at_ hx
  obtain rfl := rd_Label hr
  have e0 : W.cell? ⟨g, o, none⟩ = some (.int .i64 x0) := by simpa [size_Lab, Nat.add_assoc] using hu 0 _ rfl
  have e1 : W.cell? ⟨g, o + 1, none⟩ = some (.int .i64 x1) := by simpa [size_Lab, Nat.add_assoc] using hu 1 _ rfl
  have h0n : (0 : Int) < (L.length : Int) := by omega
  have HG := Lib.hid hg
  clear hx hu hr
  cases hr : LabC.rB x0 x1 with
  | false =>
    have HNo := Lib.hid (show ¬ ChainR L from fun h => by have := (h.2.2 0 (by omega) _ HX.out).1; rw [hr] at this; cases this)
    have HR := Lib.hid hr
    clear hr
    go_enter Tryz.func125, Tryz.ntmps125
    go_wp2_with fail
    refine (ri_at x0 x1 HR.out _).mono ?_
    rintro e w1 ⟨rfl, hb⟩
    have HB1 := Lib.hid hb
    clear hb
    go_wp2
    go_ret
    exact resB_no HNo.out HB1.out
  | true =>
    have HR := Lib.hid hr
    clear hr
    have HOK0 := Lib.hid (show ∀ j, j < 1 → okC L j from fun j hj => by obtain rfl : j = 0 := (by omega); exact okC_first HX.out HR.out)
    go_enter Tryz.func125, Tryz.ntmps125
    go_wp2_with fail
    refine (ri_at x0 x1 HR.out _).mono ?_
    rintro e w1 ⟨rfl, hb⟩
    have HB1 := Lib.hid hb
    clear hb e0 e1
    go_wp2
    go_loopw [3] (fun i wr => ∃ k : Nat, 1 ≤ k ∧ k ≤ L.length ∧ i = .int .i64 k ∧ Hid (∀ j, j < k → okC L j) ∧ Below W.heap.size W wr) (fun i _ => L.length - (intOf i).toNat)
    case atStart => exact ⟨1, Nat.le_refl _, n1, rfl, HOK0, HB1.out⟩
    case round =>
      obtain ⟨k, hk1, hk, rfl, HA, hB⟩ := hrel
      have HB := Lib.hid hB
      have hsz := hB.size
      by_cases hlt : k < L.length
      · obtain ⟨j, rfl⟩ : ∃ j, k = j + 1 := ⟨k - 1, by omega⟩
        obtain ⟨⟨x0, x1⟩, hx⟩ := el_some hlt
        have HX := Lib.hid hx
        obtain ⟨g1, o1, us, he, hg1, hu, hr⟩ := (H.out.below R_Label_ok HB.out).at_ hx
        cases he
        obtain rfl := rd_Label hr
        have e0 : wr.cell? ⟨g, o + (j + 1) * 2, none⟩ = some (.int .i64 x0) := by simpa [size_Lab, Nat.add_assoc] using hu 0 _ rfl
        have e1 : wr.cell? ⟨g, o + (j + 1) * 2 + 1, none⟩ = some (.int .i64 x1) := by simpa [size_Lab, Nat.add_assoc] using hu 1 _ rfl
        clear hu hr
        obtain ⟨⟨y0, y1⟩, hy⟩ := el_some (L := L) (k := j) (by omega)
        have HY := Lib.hid hy
        obtain ⟨g2, o2, us, he, hg2, hu, hr⟩ := (H.out.below R_Label_ok HB.out).at_ hy
        cases he
        obtain rfl := rd_Label hr
        have d0 : wr.cell? ⟨g, o + j * 2, none⟩ = some (.int .i64 y0) := by simpa [size_Lab, Nat.add_assoc] using hu 0 _ rfl
        have d1 : wr.cell? ⟨g, o + j * 2 + 1, none⟩ = some (.int .i64 y1) := by simpa [size_Lab, Nat.add_assoc] using hu 1 _ rfl
        have hgl : g < wr.heap.size := Nat.lt_of_lt_of_le hg hsz
        have hj0 : (0 : Int) ≤ (j : Int) := Int.natCast_nonneg _
        have hj1 : (j : Int) < (L.length : Int) := by omega
        have hi0p : (0 : Int) ≤ (j : Int) + 1 := by omega
        have hi1p : (j : Int) + 1 < (L.length : Int) := by omega
        have hjw : IntKind.i64.wrap ((j : Int) + 1 - 1) = (j : Int) := by rw [show (j : Int) + 1 - 1 = (j : Int) by omega]; exact IntWalk.i64_in _ (by omega)
        have hjw2 : IntKind.i64.wrap (j : Int) = (j : Int) := IntWalk.i64_in _ (by omega)
        have hlim : L.length ≤ 4 := n4
        have hry : LabC.rB y0 y1 = true := (HA.out j (Nat.lt_succ_self _) _ HY.out).1
        have HRY := Lib.hid hry
        clear hB hx hy hu hr hg1 hg2 hry
        cases hbb : LabC.belowB y0 y1 x0 x1 with
        | false =>
          have HNo := Lib.hid (show ¬ ChainR L from fun h => by
            have h2 := h.2.2 (j + 1) hlt _ HX.out
            have h3 := (h2.2 (Nat.succ_pos _) (y0, y1) HY.out).1
            rw [LabC.below_yes HRY.out h2.1, h3] at hbb
            cases hbb)
          have HBB := Lib.hid hbb
          clear hbb
          cases c1 : (x0 == y0) with
          | false =>
            go_wp2_with fail
            refine wp_region_held_drew (S := (fun V => Below (wr).heap.size (wr) V)) (by kernel_rfl) ((Below.refl _ _).drew) (fun hHeld => ?_)
            refine tk 0 hHeld ?_
            refine tk 1 hHeld ?_
            refine tk 2 hHeld ?_
            refine tk 3 hHeld ?_ (hy := fun w hSw => by (try dsimp only at hSw); have k0 := (hSw.cell (p := ⟨g, o + (j + 1) * 2, none⟩) hgl).trans e0; have k1 := (hSw.cell (p := ⟨g, o + (j + 1) * 2 + 1, none⟩) hgl).trans e1; clear hSw; go_simp; try with_reducible rfl)
            refine tk 4 hHeld ?_
            refine tk 5 hHeld ?_
            refine tk 6 hHeld ?_
            refine tk 7 hHeld ?_
            refine tk 8 hHeld ?_ (hy := fun w hSw => by (try dsimp only at hSw); have k0 := (hSw.cell (p := ⟨g, o + j * 2, none⟩) hgl).trans d0; have k1 := (hSw.cell (p := ⟨g, o + j * 2 + 1, none⟩) hgl).trans d1; clear hSw; go_simp; try with_reducible rfl)
            refine tk 9 hHeld ?_
            refine tk 10 hHeld ?_
            refine tk 11 hHeld ?_
            refine tk 12 hHeld ?_
            refine tk 13 hHeld ?_
            refine tk 14 hHeld ?_
            refine tk 15 hHeld ?_ (hy := fun w hSw => by (try dsimp only at hSw); have k0 := (hSw.cell (p := ⟨g, o + j * 2, none⟩) hgl).trans d0; have k1 := (hSw.cell (p := ⟨g, o + j * 2 + 1, none⟩) hgl).trans d1; clear hSw; go_simp; try with_reducible rfl)
            refine tk 16 hHeld ?_
            refine tk 17 hHeld ?_
            refine tk 18 hHeld ?_
            refine tk 19 hHeld ?_ (hy := fun w hSw => by (try dsimp only at hSw); have k0 := (hSw.cell (p := ⟨g, o + (j + 1) * 2, none⟩) hgl).trans e0; have k1 := (hSw.cell (p := ⟨g, o + (j + 1) * 2 + 1, none⟩) hgl).trans e1; clear hSw; go_simp; try with_reducible rfl)
            refine rd1 20 (fun K hK => ?_)
            go_simp
            go_at_call 65
            refine (bi_at y0 y1 x0 x1 HBB.out _).mono ?_
            rintro e w9 ⟨rfl, hb⟩
            refine hK.out _ _ (hHeld.trans (hb.mono hHeld.size)) (fun hHeld => ?_)
            clear hK K hb
            refine tk 21 hHeld ?_
            refine tk 22 hHeld ?_
            refine rd0 ?_
            have HF := Lib.hid hHeld
            clear hHeld
            have HB3 := Lib.hid (HB.out.trans (HF.out.mono hsz))
            clear HF
            go_wp2
            go_ret
            exact resB_no HNo.out HB3.out
          | true =>
            cases c2 : (x1 == y1) with
            | false =>
              go_wp2_with fail
              refine wp_region_held_drew (S := (fun V => Below (wr).heap.size (wr) V)) (by kernel_rfl) ((Below.refl _ _).drew) (fun hHeld => ?_)
              refine tk 0 hHeld ?_
              refine tk 1 hHeld ?_
              refine tk 2 hHeld ?_
              refine tk 3 hHeld ?_ (hy := fun w hSw => by (try dsimp only at hSw); have k0 := (hSw.cell (p := ⟨g, o + (j + 1) * 2, none⟩) hgl).trans e0; have k1 := (hSw.cell (p := ⟨g, o + (j + 1) * 2 + 1, none⟩) hgl).trans e1; clear hSw; go_simp; try with_reducible rfl)
              refine tk 4 hHeld ?_
              refine tk 5 hHeld ?_
              refine tk 6 hHeld ?_
              refine tk 7 hHeld ?_
              refine tk 8 hHeld ?_ (hy := fun w hSw => by (try dsimp only at hSw); have k0 := (hSw.cell (p := ⟨g, o + j * 2, none⟩) hgl).trans d0; have k1 := (hSw.cell (p := ⟨g, o + j * 2 + 1, none⟩) hgl).trans d1; clear hSw; go_simp; try with_reducible rfl)
              refine tk 9 hHeld ?_
              refine tk 10 hHeld ?_
              refine tk 11 hHeld ?_
              refine tk 12 hHeld ?_
              refine tk 13 hHeld ?_
              refine tk 14 hHeld ?_
              refine tk 15 hHeld ?_ (hy := fun w hSw => by (try dsimp only at hSw); have k0 := (hSw.cell (p := ⟨g, o + j * 2, none⟩) hgl).trans d0; have k1 := (hSw.cell (p := ⟨g, o + j * 2 + 1, none⟩) hgl).trans d1; clear hSw; go_simp; try with_reducible rfl)
              refine tk 16 hHeld ?_
              refine tk 17 hHeld ?_
              refine tk 18 hHeld ?_
              refine tk 19 hHeld ?_ (hy := fun w hSw => by (try dsimp only at hSw); have k0 := (hSw.cell (p := ⟨g, o + (j + 1) * 2, none⟩) hgl).trans e0; have k1 := (hSw.cell (p := ⟨g, o + (j + 1) * 2 + 1, none⟩) hgl).trans e1; clear hSw; go_simp; try with_reducible rfl)
              refine rd1 20 (fun K hK => ?_)
              go_simp
              go_at_call 65
              refine (bi_at y0 y1 x0 x1 HBB.out _).mono ?_
              rintro e w9 ⟨rfl, hb⟩
              refine hK.out _ _ (hHeld.trans (hb.mono hHeld.size)) (fun hHeld => ?_)
              clear hK K hb
              refine tk 21 hHeld ?_
              refine tk 22 hHeld ?_
              refine rd0 ?_
              have HF := Lib.hid hHeld
              clear hHeld
              have HB3 := Lib.hid (HB.out.trans (HF.out.mono hsz))
              clear HF
              go_wp2
              go_ret
              exact resB_no HNo.out HB3.out
            | true =>
              go_wp2_with fail
              refine wp_region_held_drew (S := (fun V => Below (wr).heap.size (wr) V)) (by kernel_rfl) ((Below.refl _ _).drew) (fun hHeld => ?_)
              refine tk 0 hHeld ?_
              refine tk 1 hHeld ?_
              refine tk 2 hHeld ?_
              refine tk 3 hHeld ?_ (hy := fun w hSw => by (try dsimp only at hSw); have k0 := (hSw.cell (p := ⟨g, o + (j + 1) * 2, none⟩) hgl).trans e0; have k1 := (hSw.cell (p := ⟨g, o + (j + 1) * 2 + 1, none⟩) hgl).trans e1; clear hSw; go_simp; try with_reducible rfl)
              refine tk 4 hHeld ?_
              refine tk 5 hHeld ?_
              refine tk 6 hHeld ?_
              refine tk 7 hHeld ?_
              refine tk 8 hHeld ?_ (hy := fun w hSw => by (try dsimp only at hSw); have k0 := (hSw.cell (p := ⟨g, o + j * 2, none⟩) hgl).trans d0; have k1 := (hSw.cell (p := ⟨g, o + j * 2 + 1, none⟩) hgl).trans d1; clear hSw; go_simp; try with_reducible rfl)
              refine tk 9 hHeld ?_
              refine tk 10 hHeld ?_
              refine tn 11 hHeld ?_
              refine tn 12 hHeld ?_
              refine tn 13 hHeld ?_
              refine tn 14 hHeld ?_
              refine tn 15 hHeld ?_
              refine tn 16 hHeld ?_
              refine tn 17 hHeld ?_
              refine tn 18 hHeld ?_
              refine tn 19 hHeld ?_
              refine tn 20 hHeld ?_
              refine tn 21 hHeld ?_
              refine tk 22 hHeld ?_
              refine rd0 ?_
              have HF := Lib.hid hHeld
              clear hHeld
              have HB3 := Lib.hid (HB.out.trans (HF.out.mono hsz))
              clear HF
              go_wp2
              go_ret
              exact resB_no HNo.out HB3.out
        | true =>
          have HBB := Lib.hid hbb
          have hb2 := hbb
          unfold LabC.belowB at hb2
          simp only [HRY.out, Bool.true_and, Bool.and_eq_true] at hb2
          have HB2 := Lib.hid hb2
          clear hbb hb2
          cases c1 : (x0 == y0) with
          | false =>
            have HOK := Lib.hid (all_step HA.out (okC_next HX.out HY.out HB2.out.1 HB2.out.2 (fun e => by have := congrArg Prod.fst e; simp at c1; exact c1 this.symm)))
            go_wp2_with fail
            refine wp_region_held_drew (S := (fun V => Below (wr).heap.size (wr) V)) (by kernel_rfl) ((Below.refl _ _).drew) (fun hHeld => ?_)
            refine tk 0 hHeld ?_
            refine tk 1 hHeld ?_
            refine tk 2 hHeld ?_
            refine tk 3 hHeld ?_ (hy := fun w hSw => by (try dsimp only at hSw); have k0 := (hSw.cell (p := ⟨g, o + (j + 1) * 2, none⟩) hgl).trans e0; have k1 := (hSw.cell (p := ⟨g, o + (j + 1) * 2 + 1, none⟩) hgl).trans e1; clear hSw; go_simp; try with_reducible rfl)
            refine tk 4 hHeld ?_
            refine tk 5 hHeld ?_
            refine tk 6 hHeld ?_
            refine tk 7 hHeld ?_
            refine tk 8 hHeld ?_ (hy := fun w hSw => by (try dsimp only at hSw); have k0 := (hSw.cell (p := ⟨g, o + j * 2, none⟩) hgl).trans d0; have k1 := (hSw.cell (p := ⟨g, o + j * 2 + 1, none⟩) hgl).trans d1; clear hSw; go_simp; try with_reducible rfl)
            refine tk 9 hHeld ?_
            refine tk 10 hHeld ?_
            refine tk 11 hHeld ?_
            refine tk 12 hHeld ?_
            refine tk 13 hHeld ?_
            refine tk 14 hHeld ?_
            refine tk 15 hHeld ?_ (hy := fun w hSw => by (try dsimp only at hSw); have k0 := (hSw.cell (p := ⟨g, o + j * 2, none⟩) hgl).trans d0; have k1 := (hSw.cell (p := ⟨g, o + j * 2 + 1, none⟩) hgl).trans d1; clear hSw; go_simp; try with_reducible rfl)
            refine tk 16 hHeld ?_
            refine tk 17 hHeld ?_
            refine tk 18 hHeld ?_
            refine tk 19 hHeld ?_ (hy := fun w hSw => by (try dsimp only at hSw); have k0 := (hSw.cell (p := ⟨g, o + (j + 1) * 2, none⟩) hgl).trans e0; have k1 := (hSw.cell (p := ⟨g, o + (j + 1) * 2 + 1, none⟩) hgl).trans e1; clear hSw; go_simp; try with_reducible rfl)
            refine rd1 20 (fun K hK => ?_)
            go_simp
            go_at_call 65
            refine (bi_at y0 y1 x0 x1 HBB.out _).mono ?_
            rintro e w9 ⟨rfl, hb⟩
            refine hK.out _ _ (hHeld.trans (hb.mono hHeld.size)) (fun hHeld => ?_)
            clear hK K hb
            refine tk 21 hHeld ?_
            refine tk 22 hHeld ?_
            refine rd0 ?_
            have HF := Lib.hid hHeld
            clear hHeld
            have HB3 := Lib.hid (HB.out.trans (HF.out.mono hsz))
            clear HF
            go_wp2
            go_roundw
            case rel => exact ⟨j + 2, by omega, by omega, by go_num, HOK, HB3.out⟩
            case measure => simp [intOf]; omega
          | true =>
            cases c2 : (x1 == y1) with
            | false =>
              have HOK := Lib.hid (all_step HA.out (okC_next HX.out HY.out HB2.out.1 HB2.out.2 (fun e => by have := congrArg Prod.snd e; simp at c2; exact c2 this.symm)))
              go_wp2_with fail
              refine wp_region_held_drew (S := (fun V => Below (wr).heap.size (wr) V)) (by kernel_rfl) ((Below.refl _ _).drew) (fun hHeld => ?_)
              refine tk 0 hHeld ?_
              refine tk 1 hHeld ?_
              refine tk 2 hHeld ?_
              refine tk 3 hHeld ?_ (hy := fun w hSw => by (try dsimp only at hSw); have k0 := (hSw.cell (p := ⟨g, o + (j + 1) * 2, none⟩) hgl).trans e0; have k1 := (hSw.cell (p := ⟨g, o + (j + 1) * 2 + 1, none⟩) hgl).trans e1; clear hSw; go_simp; try with_reducible rfl)
              refine tk 4 hHeld ?_
              refine tk 5 hHeld ?_
              refine tk 6 hHeld ?_
              refine tk 7 hHeld ?_
              refine tk 8 hHeld ?_ (hy := fun w hSw => by (try dsimp only at hSw); have k0 := (hSw.cell (p := ⟨g, o + j * 2, none⟩) hgl).trans d0; have k1 := (hSw.cell (p := ⟨g, o + j * 2 + 1, none⟩) hgl).trans d1; clear hSw; go_simp; try with_reducible rfl)
              refine tk 9 hHeld ?_
              refine tk 10 hHeld ?_
              refine tk 11 hHeld ?_
              refine tk 12 hHeld ?_
              refine tk 13 hHeld ?_
              refine tk 14 hHeld ?_
              refine tk 15 hHeld ?_ (hy := fun w hSw => by (try dsimp only at hSw); have k0 := (hSw.cell (p := ⟨g, o + j * 2, none⟩) hgl).trans d0; have k1 := (hSw.cell (p := ⟨g, o + j * 2 + 1, none⟩) hgl).trans d1; clear hSw; go_simp; try with_reducible rfl)
              refine tk 16 hHeld ?_
              refine tk 17 hHeld ?_
              refine tk 18 hHeld ?_
              refine tk 19 hHeld ?_ (hy := fun w hSw => by (try dsimp only at hSw); have k0 := (hSw.cell (p := ⟨g, o + (j + 1) * 2, none⟩) hgl).trans e0; have k1 := (hSw.cell (p := ⟨g, o + (j + 1) * 2 + 1, none⟩) hgl).trans e1; clear hSw; go_simp; try with_reducible rfl)
              refine rd1 20 (fun K hK => ?_)
              go_simp
              go_at_call 65
              refine (bi_at y0 y1 x0 x1 HBB.out _).mono ?_
              rintro e w9 ⟨rfl, hb⟩
              refine hK.out _ _ (hHeld.trans (hb.mono hHeld.size)) (fun hHeld => ?_)
              clear hK K hb
              refine tk 21 hHeld ?_
              refine tk 22 hHeld ?_
              refine rd0 ?_
              have HF := Lib.hid hHeld
              clear hHeld
              have HB3 := Lib.hid (HB.out.trans (HF.out.mono hsz))
              clear HF
              go_wp2
              go_roundw
              case rel => exact ⟨j + 2, by omega, by omega, by go_num, HOK, HB3.out⟩
              case measure => simp [intOf]; omega
            | true =>
              have HNo := Lib.hid (show ¬ ChainR L from fun h => by
                have h2 := (h.2.2 (j + 1) hlt _ HX.out).2 (Nat.succ_pos _) (y0, y1) HY.out
                rw [beq_iff_eq] at c1 c2
                exact h2.2 (by rw [c1, c2]))
              go_wp2_with fail
              refine wp_region_held_drew (S := (fun V => Below (wr).heap.size (wr) V)) (by kernel_rfl) ((Below.refl _ _).drew) (fun hHeld => ?_)
              refine tk 0 hHeld ?_
              refine tk 1 hHeld ?_
              refine tk 2 hHeld ?_
              refine tk 3 hHeld ?_ (hy := fun w hSw => by (try dsimp only at hSw); have k0 := (hSw.cell (p := ⟨g, o + (j + 1) * 2, none⟩) hgl).trans e0; have k1 := (hSw.cell (p := ⟨g, o + (j + 1) * 2 + 1, none⟩) hgl).trans e1; clear hSw; go_simp; try with_reducible rfl)
              refine tk 4 hHeld ?_
              refine tk 5 hHeld ?_
              refine tk 6 hHeld ?_
              refine tk 7 hHeld ?_
              refine tk 8 hHeld ?_ (hy := fun w hSw => by (try dsimp only at hSw); have k0 := (hSw.cell (p := ⟨g, o + j * 2, none⟩) hgl).trans d0; have k1 := (hSw.cell (p := ⟨g, o + j * 2 + 1, none⟩) hgl).trans d1; clear hSw; go_simp; try with_reducible rfl)
              refine tk 9 hHeld ?_
              refine tk 10 hHeld ?_
              refine tn 11 hHeld ?_
              refine tn 12 hHeld ?_
              refine tn 13 hHeld ?_
              refine tn 14 hHeld ?_
              refine tn 15 hHeld ?_
              refine tn 16 hHeld ?_
              refine tn 17 hHeld ?_
              refine tn 18 hHeld ?_
              refine tn 19 hHeld ?_
              refine tn 20 hHeld ?_
              refine tn 21 hHeld ?_
              refine tk 22 hHeld ?_
              refine rd0 ?_
              have HF := Lib.hid hHeld
              clear hHeld
              have HB3 := Lib.hid (HB.out.trans (HF.out.mono hsz))
              clear HF
              go_wp2
              go_ret
              exact resB_no HNo.out HB3.out
      · have hd : decide ((k : Int) < (L.length : Int)) = false := decide_eq_false (by omega)
        have HY := Lib.hid (show ChainR L from ⟨n1, n4, fun i hi => HA.out i (by omega)⟩)
        clear hB
        go_wp2
        go_ret
        exact resB_yes HY.out HB.out
set_option maxRecDepth 100000 in
set_option maxHeartbeats 3200000 in
theorem clearright_impl {C : List (List D_Label)} {ca : Option Addr} {cc : Nat} {W : World} (hC : RdSl (Sl R_Label) W W.heap.size C ca cc) :
    Calls Tryz.prog 108 #[.slice ca C.length cc] W (ResB (ClearR C) W) := by
  have HC := Lib.hid hC
  have hcn : C.length ≤ 9223372036854775807 := by have h1 := hC.1; have h2 := hC.2.1; unfold maxLen at h2; omega
  clear hC
  obtain ⟨b1, hb1⟩ : ∃ b, isB (C.length : Int) 1 6 = b := ⟨_, rfl⟩
  have H1 := Lib.hid hb1
  clear hb1
  go_enter Tryz.func108, Tryz.ntmps108
  go_wp2_with fail
  refine (wi_at _ _ _ H1.out _).mono ?_
  rintro e w9 ⟨rfl, rfl⟩
  cases b1 with
  | false =>
    have HN := Lib.hid (show ¬ ClearR C from fun h => by
      have h2 : isB (C.length : Int) 1 6 = true := isB_io.2 ⟨by have := h.1; omega, by have := h.2.1; omega⟩
      rw [H1.out] at h2; cases h2)
    go_wp2
    go_ret
    exact resB_no HN.out (Below.refl _ _)
  | true =>
  have h16 : 1 ≤ C.length ∧ C.length ≤ 6 := by have := isB_io.1 H1.out; omega
  have H16 := Lib.hid h16
  go_wp2
  go_loopw [11] (fun i wr => ∃ k : Nat, k ≤ C.length ∧ i = .int .i64 k ∧ Hid (∀ (j : Nat) x, j < k → C[j]? = some x → ChainR x) ∧ Below W.heap.size W wr) (fun i _ => C.length - (intOf i).toNat)
  case atStart => exact ⟨0, Nat.zero_le _, rfl, Lib.hid fun j x h => absurd h (Nat.not_lt_zero _), Below.refl _ _⟩
  case round =>
    obtain ⟨k, hk, rfl, HA, hB⟩ := hrel
    have HB := Lib.hid hB
    have hsz := hB.size
    by_cases hlt : k < C.length
    · have hdl : decide ((k : Int) < (C.length : Int)) = true := decide_eq_true (by omega)
      obtain ⟨x, hx⟩ := el_some hlt
      have HX := Lib.hid hx
      obtain ⟨g, o, us, rfl, hg, hu, hr⟩ := (HC.out.below (Sl_ok R_Label_ok) hB).at_ hx
      obtain ⟨a1, c1, rfl, k_x⟩ := hr
      have e0 : wr.cell? ⟨g, o + k, none⟩ = some (.slice a1 x.length c1) := by simpa [size_SLab] using hu 0 _ rfl
      have hi0 : (0 : Int) ≤ (k : Int) := Int.natCast_nonneg _
      have hi1 : (k : Int) < (C.length : Int) := by omega
      have HK := Lib.hid (k_x.more R_Label_ok hsz)
      clear hB hx hu k_x
      go_wp2_with fail
      refine (chain_im HK.out).mono ?_
      intro e w1 h
      obtain ⟨z, rfl, hz, hb⟩ := resB_elim h
      have HB1 := Lib.hid (HB.out.trans (hb.mono hsz))
      have HZ := Lib.hid hz
      clear h hz hb
      cases z with
      | false =>
        have HN := Lib.hid (show ¬ ClearR C from fun h => by have := HZ.out.2 (h.2.2 k x HX.out); cases this)
        go_wp2
        go_ret
        exact resB_no HN.out HB1.out
      | true =>
        have HA2 := Lib.hid (show ∀ (j : Nat) x, j < k + 1 → C[j]? = some x → ChainR x from fun j y hj hy => by
          by_cases e : j = k
          · subst e
            have := HX.out
            rw [hy] at this
            obtain rfl := Option.some.inj this
            exact HZ.out.1 rfl
          · exact HA.out j y (by omega) hy)
        go_wp2
        go_roundw
        case rel => exact ⟨k + 1, by omega, by go_num, HA2, HB1.out⟩
        case measure => simp [intOf]; omega
    · have hdl : decide ((k : Int) < (C.length : Int)) = false := decide_eq_false (by omega)
      have HCR := Lib.hid (show ClearR C from ⟨H16.out.1, H16.out.2, fun i x hx => HA.out i x (by have := el_lt hx; omega) hx⟩)
      clear hB
      go_wp2
      go_ret
      exact resB_yes HCR.out HB.out
end Go.Proofs.YtlgflddljhldhaaGreat.RepC
end
section
namespace Go.Proofs.YtlgflddljhldhaaGreat.RepC
open Go.RowKit RowC ValC SpanC KeptC Go.Lib CfC
set_option linter.unusedVariables false
set_option linter.unusedSimpArgs false
theorem setCells_put (g : Nat) : ∀ (cs : List Value) (W : World) (o : Nat), W.setCells g o cs = putCells W g o cs
  | [], _, _ => rfl
  | c :: cs, W, o => by simp only [World.setCells, putCells]; exact setCells_put g cs _ _
theorem run_clear_labs (W : World) (ty : TypeId) (g k n c : Nat) (hn : 0 < n) (hc : ∀ j, j < n * 2 → (W.cell? ⟨g, k + j, none⟩).isSome = true) (hf : Sf W g) :
    ∃ w', (Builtin.clear_ #[119] ty #[.slice (some ⟨g, k, none⟩) n c]).run Tryz.prog W = .ok (.tuple #[]) w' ∧ (∀ j, j < k → w'.cell? ⟨g, j, none⟩ = W.cell? ⟨g, j, none⟩) ∧ Sf w' g ∧ Off (fun x => x = g) W w' := by
  have hzl : (Builtin.zeroCells (Value.agg #[.int .i64 0, .int .i64 0]).cells n).toList.length = n * 2 := by
    simp [Builtin.zeroCells, Value.cells]
  have hone : ∀ v ∈ (Builtin.zeroCells (Value.agg #[.int .i64 0, .int .i64 0]).cells n).toList, v.oneCell' = true := by
    intro v hv
    simp [Builtin.zeroCells, Value.cells] at hv
    obtain ⟨i, _, rfl⟩ := hv
    rcases Nat.mod_two_eq_zero_or_one i with e | e <;> rw [e] <;> rfl
  have hst := run_storeCells_cells (P := Tryz.prog) g k (Builtin.zeroCells (Value.agg #[.int .i64 0, .int .i64 0]).cells n).toList 0 W (fun j hj => by rw [hzl] at hj; simpa using hc j hj) (fun j _ => hf _) hone
  simp only [Nat.add_zero] at hst
  obtain ⟨iL, hiL, hzL1, hsL, hbL⟩ := infoLb
  have hv : ∀ w, (zeroValue 47).run Tryz.prog w = .ok (.agg #[.int .i64 0, .int .i64 0]) w := fun w => by
    simp [zeroValue, typeInfo, hiL, hzL1]
  refine ⟨W.setCells g k (Builtin.zeroCells (Value.agg #[.int .i64 0, .int .i64 0]).cells n).toList, ?_, fun j hj => ?_, fun j => ?_, ?_⟩
  · obtain ⟨m, rfl⟩ : ∃ m, n = m + 1 := ⟨n - 1, by omega⟩
    simp [Builtin.clear_, run_underlying Tryz.underlying119, hv, hst]
  · rw [setCells_put]; exact putCells_other g _ _ _ (Or.inl hj)
  · rw [setCells_put, putCells_frozen]; exact hf j
  · rw [setCells_put]; exact putCells_off g _ _ _
def CmpR (g cap : Nat) (d : Array Lb) (w : World) (e : Ending) (w' : World) : Prop := e = .returned (.slice (some ⟨g, 0, none⟩) (compactUpTo d d.size).length cap) ∧ (∀ (j : Nat) x, (compactUpTo d d.size)[j]? = some x → w'.cell? ⟨g, j * 2, none⟩ = some (.int .i64 x.1) ∧ w'.cell? ⟨g, j * 2 + 1, none⟩ = some (.int .i64 x.2)) ∧ Sf w' g ∧ Off (fun x => x = g) w w'
theorem cmpR_all {g cap : Nat} {d : Array Lb} {w w' : World} {n : Nat} (hn : n = d.size) (hall : ∀ j, j < d.size → keeps d j = true) (hR : Rw w' g d) (hs : Sf w' g) (ho : Off (fun x => x = g) w w') : CmpR g cap d w (.returned (.slice (some ⟨g, 0, none⟩) n cap)) w' := by
  have e : compactUpTo d d.size = d.toList := by rw [compactUpTo_all d _ hall, range_map_get]
  refine ⟨by rw [e, hn]; simp, fun j x hx => ?_, hs, ho⟩
  rw [e] at hx
  have hj : j < d.size := by have := el_lt hx; simpa using this
  have hx' : d[j]! = x := by
    rw [Array.getElem?_toList, Array.getElem?_eq_getElem hj] at hx
    rw [getElem!_pos d j hj]; exact Option.some.inj hx
  rw [← hx']
  exact hR j hj
set_option maxRecDepth 100000 in
set_option maxHeartbeats 3200000 in
theorem compact_labs {g cap : Nat} {d : Array Lb} {W : World} (hR : Rw W g d) (hS : Sf W g) (hn : d.size ≤ 1048576) (hcap : d.size ≤ cap) (hg : g < W.heap.size) :
    Calls Tryz.prog 126 #[.slice (some ⟨g, 0, none⟩) d.size cap] W (CmpR g cap d W) := by
  have HR0 := Lib.hid hR
  have HS0 := Lib.hid hS
  clear hR hS
  by_cases h2 : d.size < 2
  · have hd : decide ((d.size : Int) < 2) = true := decide_eq_true (by omega)
    go_enter Tryz.func126, Tryz.ntmps126
    go_wp2
    go_ret
    exact cmpR_all rfl (fun j hj => keeps_lt_one d j (by omega)) HR0.out HS0.out (Off.refl _ _)
  have hd : decide ((d.size : Int) < 2) = false := decide_eq_false (by omega)
  go_enter Tryz.func126, Tryz.ntmps126
  go_wp2
  go_loopw [3] (fun i wr => ∃ m : Nat, m + 1 ≤ d.size ∧ i = .int .i64 ((m + 1 : Nat) : Int) ∧ Hid (∀ j, j < m + 1 → keeps d j = true) ∧ Below W.heap.size W wr) (fun i _ => d.size - (intOf i).toNat)
  case atStart => exact ⟨0, by omega, rfl, Lib.hid (keeps_lt_one d), Below.refl _ _⟩
  case round =>
    obtain ⟨m, hm, rfl, HK, hB⟩ := hrel
    obtain ⟨wo, rfl⟩ : ∃ x, x = wr := ⟨_, rfl⟩
    have HB := Lib.hid hB
    have hsz := hB.size
    have HR := Lib.hid (HR0.out.below hg hB)
    have HS := Lib.hid (HS0.out.below hg hB)
    have hcast : ((m + 1 : Nat) : Int) = (m : Int) + 1 := by omega
    clear hB
    by_cases hlt : m + 1 < d.size
    · have hdl : decide (((m + 1 : Nat) : Int) < (d.size : Int)) = true := decide_eq_true (by omega)
      have hdl2 : decide ((m : Int) + 1 < (d.size : Int)) = true := decide_eq_true (by omega)
      obtain ⟨⟨x0, x1⟩, hx⟩ : ∃ x, d[m + 1]! = x := ⟨_, rfl⟩
      obtain ⟨⟨y0, y1⟩, hy⟩ : ∃ x, d[m]! = x := ⟨_, rfl⟩
      obtain ⟨c0, c1⟩ := HR.out (m + 1) hlt
      obtain ⟨p0, p1⟩ := HR.out m (by omega)
      rw [hx] at c0 c1
      rw [hy] at p0 p1
      have HXY := Lib.hid (And.intro hx hy)
      have HG := Lib.hid (show g < wo.heap.size by omega)
      have hi0 : (0 : Int) ≤ (m : Int) + 1 := by omega
      have hi1 : (m : Int) + 1 < (d.size : Int) := by omega
      have hj0 : (0 : Int) ≤ (m : Int) := Int.natCast_nonneg _
      have hj1 : (m : Int) < (d.size : Int) := by omega
      have hsub : IntKind.i64.wrap ((m : Int) + 1 - 1) = (m : Int) := by rw [show (m : Int) + 1 - 1 = (m : Int) by omega]; exact IntWalk.i64_in _ (by omega)
      have hsub2 : IntKind.i64.wrap (m : Int) = (m : Int) := IntWalk.i64_in _ (by omega)
      obtain ⟨b, hb⟩ : ∃ b, decide (((x0, x1) : Int × Int) = (y0, y1)) = b := ⟨_, rfl⟩
      have hE := eql_lab x0 x1 y0 y1 b hb
      have HBE := Lib.hid hb
      clear hx hy hb
      cases b with
      | false =>
        have HK2 := Lib.hid (show ∀ j, j < m + 1 + 1 → keeps d j = true from fun j hj => by
          by_cases e : j = m + 1
          · subst e; exact keeps_pos (by rw [Nat.add_sub_cancel, HXY.out.1, HXY.out.2]; exact of_decide_eq_false HBE.out)
          · exact HK.out j (by omega))
        go_wp2_with fail
        refine wp_region_held_drew (S := (fun V => Below (wo).heap.size (wo) V)) (by kernel_rfl) ((Below.refl _ _).drew) (fun hHeld => ?_)
        refine tk 0 hHeld ?_
        refine tk 1 hHeld ?_
        refine tk 2 hHeld ?_
        refine tk 3 hHeld ?_ (hy := fun w hSw => by (try dsimp only at hSw); have k0 := (hSw.cell (p := ⟨g, (m + 1) * 2, none⟩) HG.out).trans c0; have k1 := (hSw.cell (p := ⟨g, (m + 1) * 2 + 1, none⟩) HG.out).trans c1; clear hSw; go_simp; try with_reducible rfl)
        refine tk 4 hHeld ?_
        refine tk 5 hHeld ?_
        refine tk 6 hHeld ?_
        refine tk 7 hHeld ?_
        refine tk 8 hHeld ?_ (hy := fun w hSw => by (try dsimp only at hSw); have k0 := (hSw.cell (p := ⟨g, m * 2, none⟩) HG.out).trans p0; have k1 := (hSw.cell (p := ⟨g, m * 2 + 1, none⟩) HG.out).trans p1; clear hSw; go_simp; try with_reducible rfl)
        refine tk 9 hHeld ?_
        refine rd0 ?_
        have HF := Lib.hid hHeld
        clear hHeld
        have HB2 := Lib.hid (HB.out.trans (HF.out.mono hsz))
        clear HF
        go_wp2
        go_roundw
        case rel => exact ⟨m + 1, by omega, by go_num, HK2, HB2.out⟩
        case measure => simp [intOf]; omega
      | true =>
        have HDup := Lib.hid (show keeps d (m + 1) = false from keeps_neg (by omega) (by rw [Nat.add_sub_cancel, HXY.out.1, HXY.out.2]; exact of_decide_eq_true HBE.out))
        have hne : ¬ cap = m + 1 := by omega
        have hne2 : ¬ m + 1 = cap := by omega
        go_wp2_with fail
        refine wp_region_held_drew (S := (fun V => Below (wo).heap.size (wo) V)) (by kernel_rfl) ((Below.refl _ _).drew) (fun hHeld => ?_)
        refine tk 0 hHeld ?_
        refine tk 1 hHeld ?_
        refine tk 2 hHeld ?_
        refine tk 3 hHeld ?_ (hy := fun w hSw => by (try dsimp only at hSw); have k0 := (hSw.cell (p := ⟨g, (m + 1) * 2, none⟩) HG.out).trans c0; have k1 := (hSw.cell (p := ⟨g, (m + 1) * 2 + 1, none⟩) HG.out).trans c1; clear hSw; go_simp; try with_reducible rfl)
        refine tk 4 hHeld ?_
        refine tk 5 hHeld ?_
        refine tk 6 hHeld ?_
        refine tk 7 hHeld ?_
        refine tk 8 hHeld ?_ (hy := fun w hSw => by (try dsimp only at hSw); have k0 := (hSw.cell (p := ⟨g, m * 2, none⟩) HG.out).trans p0; have k1 := (hSw.cell (p := ⟨g, m * 2 + 1, none⟩) HG.out).trans p1; clear hSw; go_simp; try with_reducible rfl)
        refine tk 9 hHeld ?_
        refine rd0 ?_
        have HF := Lib.hid hHeld
        clear hHeld
        have HB2 := Lib.hid (HB.out.trans (HF.out.mono hsz))
        have hz2 := HB2.out.size
        have HR2 := Lib.hid (HR0.out.below hg HB2.out)
        have HS2 := Lib.hid (HS0.out.below hg HB2.out)
        have HO2 := Lib.hid (Off.of_below (S := fun x => x = g) (Off.refl _ W) HB2.out)
        clear HF c0 c1 p0 p1 hE HR HS
        obtain ⟨n2, hn2⟩ : ∃ n2, n2 = d.size - (m + 1) := ⟨_, rfl⟩
        obtain ⟨c2, hc2⟩ : ∃ c2, c2 = cap - (m + 1) := ⟨_, rfl⟩
        obtain ⟨w2, hw2⟩ : ∃ w, w = wo.drew := ⟨_, rfl⟩
        rw [← hw2] at HR2 HS2 HO2 hz2
        clear HB2
        go_wp2
        rw [← hn2, ← hc2, ← hw2]
        have HN2 := Lib.hid hn2
        have hn2d : n2 ≤ d.size := by omega
        clear hw2 hn2 hc2
        go_loopw [3, 5] (fun a i wr => ∃ (kk q : Nat) (dk : Array Lb), a = .int .i64 (kk : Int) ∧ i = .int .i64 ((q + 1 : Nat) : Int) ∧ m + 1 + (q + 1) ≤ d.size ∧ Hid (Rw wr g dk) ∧ Hid (Sf wr g) ∧ Hid (CompInv d (m + 1 + (q + 1)) kk dk) ∧ Hid (Off (fun x => x = g) W wr)) (fun _ i _ => d.size - (intOf i).toNat)
        case atStart => exact ⟨m + 1, 0, d, by go_num, rfl, by omega, HR2, HS2, Lib.hid (CompInv.start HK.out HDup.out), HO2⟩
        case round =>
          obtain ⟨kk, q, dk, rfl, rfl, hq, HR, HS, HI, HO⟩ := hrel
          have hkk := HI.out.lt
          have hds := HI.out.size
          have hzw := HO.out.size
          have hcast2 : ((q + 1 : Nat) : Int) = (q : Int) + 1 := by omega
          by_cases hql : q + 1 < n2
          · have hdq : decide (((q + 1 : Nat) : Int) < (n2 : Int)) = true := decide_eq_true (by omega)
            have hdq2 : decide ((q : Int) + 1 < (n2 : Int)) = true := decide_eq_true (by omega)
            have hmq : m + 1 + (q + 1) < d.size := by have := HN2.out; omega
            obtain ⟨⟨x0, x1⟩, hx⟩ : ∃ x, d[m + 1 + (q + 1)]! = x := ⟨_, rfl⟩
            obtain ⟨⟨y0, y1⟩, hy⟩ : ∃ x, d[m + 1 + q]! = x := ⟨_, rfl⟩
            obtain ⟨c0, c1⟩ := HR.out (m + 1 + (q + 1)) (by omega)
            obtain ⟨p0, p1⟩ := HR.out (m + 1 + q) (by omega)
            rw [HI.out.high _ (by omega), hx, Nat.add_mul] at c0 c1
            rw [HI.out.high _ (by omega), hy, Nat.add_mul] at p0 p1
            have HXY := Lib.hid (And.intro hx hy)
            have HG := Lib.hid (show g < wr.heap.size by omega)
            have hi0 : (0 : Int) ≤ (q : Int) + 1 := by omega
            have hi1 : (q : Int) + 1 < (n2 : Int) := by omega
            have hj0 : (0 : Int) ≤ (q : Int) := Int.natCast_nonneg _
            have hj1 : (q : Int) < (n2 : Int) := by omega
            have hs1 : IntKind.i64.wrap ((q : Int) + 1 - 1) = (q : Int) := by rw [show (q : Int) + 1 - 1 = (q : Int) by omega]; exact IntWalk.i64_in _ (by omega)
            have hs2 : IntKind.i64.wrap (q : Int) = (q : Int) := IntWalk.i64_in _ (by omega)
            obtain ⟨b, hb⟩ : ∃ b, decide (((x0, x1) : Int × Int) = (y0, y1)) = b := ⟨_, rfl⟩
            have hE := neq_lab x0 x1 y0 y1 b hb
            have HBE2 := Lib.hid hb
            clear hx hy hb
            cases b with
            | true =>
              have HI2 := Lib.hid (HI.out.skip (keeps_neg (by omega) (by rw [show m + 1 + (q + 1) - 1 = m + 1 + q by omega, HXY.out.1, HXY.out.2]; exact of_decide_eq_true HBE2.out)))
              go_wp2_with fail
              refine wp_region_held_drew (S := (fun V => Below (wr).heap.size (wr) V)) (by kernel_rfl) ((Below.refl _ _).drew) (fun hHeld => ?_)
              refine tk 0 hHeld ?_
              refine tk 1 hHeld ?_
              refine tk 2 hHeld ?_
              refine tk 3 hHeld ?_ (hy := fun w hSw => by (try dsimp only at hSw); have k0 := (hSw.cell (p := ⟨g, (m + 1) * 2 + (q + 1) * 2, none⟩) HG.out).trans c0; have k1 := (hSw.cell (p := ⟨g, (m + 1) * 2 + (q + 1) * 2 + 1, none⟩) HG.out).trans c1; clear hSw; go_simp; try with_reducible rfl)
              refine tk 4 hHeld ?_
              refine tk 5 hHeld ?_
              refine tk 6 hHeld ?_
              refine tk 7 hHeld ?_
              refine tk 8 hHeld ?_ (hy := fun w hSw => by (try dsimp only at hSw); have k0 := (hSw.cell (p := ⟨g, (m + 1) * 2 + q * 2, none⟩) HG.out).trans p0; have k1 := (hSw.cell (p := ⟨g, (m + 1) * 2 + q * 2 + 1, none⟩) HG.out).trans p1; clear hSw; go_simp; try with_reducible rfl)
              refine tk 9 hHeld ?_
              refine rd0 ?_
              have HF := Lib.hid hHeld
              clear hHeld
              have HR3 := Lib.hid (HR.out.below HG.out HF.out)
              have HS3 := Lib.hid (HS.out.below HG.out HF.out)
              have HO3 := Lib.hid (HO.out.of_below HF.out)
              clear HF c0 c1 p0 p1 hE
              go_wp2
              go_roundw
              case rel => exact ⟨kk, q + 1, dk, rfl, by go_num, by omega, HR3, HS3, HI2, HO3⟩
              case measure => simp [intOf]; omega
            | false =>
              have HI2 := Lib.hid (show CompInv d (m + 1 + (q + 1) + 1) (kk + 1) (dk.setIfInBounds kk (x0, x1)) from by
                have := HI.out.keep hmq (keeps_pos (by rw [show m + 1 + (q + 1) - 1 = m + 1 + q by omega, HXY.out.1, HXY.out.2]; exact of_decide_eq_false HBE2.out))
                rw [HXY.out.1] at this
                exact this)
              go_wp2_with fail
              refine wp_region_held_drew (S := (fun V => Below (wr).heap.size (wr) V)) (by kernel_rfl) ((Below.refl _ _).drew) (fun hHeld => ?_)
              refine tk 0 hHeld ?_
              refine tk 1 hHeld ?_
              refine tk 2 hHeld ?_
              refine tk 3 hHeld ?_ (hy := fun w hSw => by (try dsimp only at hSw); have k0 := (hSw.cell (p := ⟨g, (m + 1) * 2 + (q + 1) * 2, none⟩) HG.out).trans c0; have k1 := (hSw.cell (p := ⟨g, (m + 1) * 2 + (q + 1) * 2 + 1, none⟩) HG.out).trans c1; clear hSw; go_simp; try with_reducible rfl)
              refine tk 4 hHeld ?_
              refine tk 5 hHeld ?_
              refine tk 6 hHeld ?_
              refine tk 7 hHeld ?_
              refine tk 8 hHeld ?_ (hy := fun w hSw => by (try dsimp only at hSw); have k0 := (hSw.cell (p := ⟨g, (m + 1) * 2 + q * 2, none⟩) HG.out).trans p0; have k1 := (hSw.cell (p := ⟨g, (m + 1) * 2 + q * 2 + 1, none⟩) HG.out).trans p1; clear hSw; go_simp; try with_reducible rfl)
              refine tk 9 hHeld ?_
              refine rd0 ?_
              have HF := Lib.hid hHeld
              clear hHeld
              have HR3 := Lib.hid (HR.out.below HG.out HF.out)
              have HS3 := Lib.hid (HS.out.below HG.out HF.out)
              have HO3 := Lib.hid (HO.out.of_below HF.out)
              have r0 := (HF.out.cell (p := ⟨g, (m + 1) * 2 + (q + 1) * 2, none⟩) HG.out).trans c0
              have r1 := (HF.out.cell (p := ⟨g, (m + 1) * 2 + (q + 1) * 2 + 1, none⟩) HG.out).trans c1
              obtain ⟨t0, t1⟩ := HR3.out kk (by omega)
              have s0 := HS3.out (kk * 2)
              have s1 := HS3.out (kk * 2 + 1)
              obtain ⟨w3, hw3⟩ : ∃ w, w = wr.drew := ⟨_, rfl⟩
              rw [← hw3] at HR3 HS3 HO3 r0 r1 t0 t1 s0 s1
              rw [← hw3]
              have HR4 := Lib.hid (HR3.out.set (i := kk) (by omega) x0 x1)
              have HS4 := Lib.hid ((HS3.out.set (i := kk * 2) (.int .i64 x0)).set (i := kk * 2 + 1) (.int .i64 x1))
              have HO4 := Lib.hid ((HO3.out.setCell (p := ⟨g, kk * 2, none⟩) rfl (.int .i64 x0)).setCell (p := ⟨g, kk * 2 + 1, none⟩) rfl (.int .i64 x1))
              have hk0 : (0 : Int) ≤ (kk : Int) := Int.natCast_nonneg _
              have hk1 : (kk : Int) < (d.size : Int) := by omega
              clear HF c0 c1 p0 p1 hE hw3
              go_wp2
              go_roundw
              case rel => exact ⟨kk + 1, q + 1, _, by go_num, by go_num, by omega, HR4, HS4, HI2, HO4⟩
              case measure => simp [intOf]; omega
          · have hdq : decide (((q + 1 : Nat) : Int) < (n2 : Int)) = false := decide_eq_false (by omega)
            have hdq2 : decide ((q : Int) + 1 < (n2 : Int)) = false := decide_eq_false (by omega)
            have hend : m + 1 + (q + 1) = d.size := by have := HN2.out; omega
            have hnk : ¬ cap = kk := by omega
            have hnk2 : ¬ kk = cap := by omega
            obtain ⟨w4, hr4, hk4, hS4, hO4⟩ := run_clear_labs wr 37373737 g (kk * 2) (d.size - kk) (cap - kk) (by omega) (fun j hj => by
              have h5 := HR.out (kk + j / 2) (by omega)
              rcases Nat.mod_two_eq_zero_or_one j with e | e
              · rw [show kk * 2 + j = (kk + j / 2) * 2 by omega, h5.1]; rfl
              · rw [show kk * 2 + j = (kk + j / 2) * 2 + 1 by omega, h5.2]; rfl) HS.out
            have HFin := Lib.hid (show CmpR g cap d W (.returned (.slice (some ⟨g, 0, none⟩) kk cap)) w4 from by
              have hI := HI.out
              rw [hend] at hI
              refine ⟨by rw [hI.len], fun j x hx => ?_, hS4, HO.out.trans hO4⟩
              have hjk : j < kk := by have := el_lt hx; rw [hI.len] at this; exact this
              have h6 := hI.low j hjk
              rw [h6] at hx
              obtain rfl := Option.some.inj hx
              rw [hk4 _ (by omega), hk4 _ (by omega)]
              exact HR.out j (by omega))
            have hr5 : ∀ ty, (Builtin.clear_ #[119] ty #[.slice (some ⟨g, kk * 2, none⟩) (d.size - kk) (cap - kk)]).run Tryz.prog wr = .ok (.tuple #[]) w4 := fun ty => hr4
            clear hr4 hk4 hS4 hO4
            go_wp2
            go_ret
            exact HFin.out
    · have hdl : decide (((m + 1 : Nat) : Int) < (d.size : Int)) = false := decide_eq_false (by omega)
      have hdl2 : decide ((m : Int) + 1 < (d.size : Int)) = false := decide_eq_false (by omega)
      have HO := Lib.hid (Off.of_below (S := fun x => x = g) (Off.refl _ W) HB.out)
      go_wp2
      go_ret
      exact cmpR_all rfl (fun j hj => HK.out j (by omega)) HR.out HS.out HO.out
end Go.Proofs.YtlgflddljhldhaaGreat.RepC
end
section
namespace Go.Proofs.YtlgflddljhldhaaGreat.RepC
open Go.RowKit RowC ValC SpanC KeptC Go.Lib CfC
set_option linter.unusedVariables false
set_option linter.unusedSimpArgs false
theorem chain_rP {L : List D_Label} (h : ChainR L) {a : D_Label} (ha : a ∈ L) : LabC.rP a.1 a.2 := by
  obtain ⟨i, hi⟩ := List.getElem?_of_mem ha
  have := (h.2.2 i (el_lt hi) a hi).1
  exact (LabC.rB_iff _ _).1 this
theorem clear_flat {C : List (List D_Label)} (h : ClearR C) : 0 < C.flatten.length ∧ C.flatten.length ≤ 24 ∧ ∀ a ∈ C.flatten, LabC.rP a.1 a.2 := by
  obtain ⟨h1, h6, hc⟩ := h
  have hmem : ∀ x ∈ C, ChainR x := fun x hx => by
    obtain ⟨i, hi⟩ := List.getElem?_of_mem hx
    exact hc i x hi
  refine ⟨?_, ?_, fun a ha => ?_⟩
  · match C, h1, hmem with
    | x :: xs, _, hm => rw [List.flatten_cons, List.length_append]; have := (hm x List.mem_cons_self).1; omega
  · have : ∀ (M : List (List D_Label)), (∀ x ∈ M, ChainR x) → M.flatten.length ≤ 4 * M.length := by
      intro M
      induction M with
      | nil => intro _; simp
      | cons x xs ih =>
        intro hm
        rw [List.flatten_cons, List.length_append, List.length_cons]
        have := (hm x List.mem_cons_self).2.1
        have := ih fun y hy => hm y (List.mem_cons_of_mem _ hy)
        omega
    have := this C hmem
    omega
  · obtain ⟨x, hx, ha⟩ := List.mem_flatten.1 ha
    exact chain_rP (hmem x hx) ha
theorem labs_compact {C : List (List D_Label)} (h : ClearR C) {d : Array Lb} (hm : ∀ a, (∃ j, j < d.size ∧ d[j]! = a) ↔ a ∈ C.flatten) (hs : ∀ i j, i < j → j < d.size → ¬ (d[j]!.1 < d[i]!.1 ∨ d[j]!.1 = d[i]!.1 ∧ d[j]!.2 < d[i]!.2)) : compactUpTo d d.size = labsOf C := by
  obtain ⟨h1, h2, _⟩ := compact_sorted (d := d) (fun i j hij hj => hs i j hij hj) d.size (Nat.le_refl _)
  refine sorted_eq h1 (labs_sorted C 32) fun a => ?_
  rw [h2, hm]
  show _ ↔ a ∈ labsOf C
  rw [mem_labs, List.mem_flatten]
  constructor
  · rintro ⟨x, hx, ha⟩
    exact ⟨(clear_flat h).2.2 a (List.mem_flatten.2 ⟨x, hx, ha⟩), x, hx, ha⟩
  · rintro ⟨_, x, hx, ha⟩
    exact ⟨x, hx, ha⟩
theorem compact_len_le {d : Array Lb} : ∀ m, (compactUpTo d m).length ≤ m
  | 0 => Nat.le_refl _
  | m + 1 => by
    rw [compactUpTo_succ, List.length_append]
    have := compact_len_le (d := d) m
    split <;> simp <;> omega
set_option maxRecDepth 100000 in
set_option maxHeartbeats 1600000 in
theorem labs_impl {C : List (List D_Label)} {ca : Option Addr} {cc : Nat} {W : World} (hR : ClearR C) (hC : RdSl (Sl R_Label) W W.heap.size C ca cc) :
    Calls Tryz.prog 109 #[.slice ca C.length cc] W (NewS R_Label (labsOf C) W) := by
  obtain ⟨hf0, hf24, _⟩ := clear_flat hR
  have HR := Lib.hid hR
  obtain ⟨M, hM⟩ : ∃ M, labsOf C = M := ⟨_, rfl⟩
  have HM := Lib.hid hM
  rw [hM]
  clear hM
  have hcon := concat_labs (W := W) (by omega) hC
  have hlc := fun (d : Array Lb) h1 h2 => (labs_compact (d := d) HR.out h1 h2).trans HM.out
  obtain ⟨F, hF⟩ : ∃ F, C.flatten = F := ⟨_, rfl⟩
  rw [hF] at hf0 hf24 hcon hlc
  have HLC := Lib.hid hlc
  have HCON := Lib.hid hcon
  clear hF hlc hcon
  go_enter Tryz.func109, Tryz.ntmps109
  go_wp2_with fail
  refine HCON.out.mono ?_
  intro e w1 h
  obtain ⟨v, lo, rfl, hlo, hlw, hrow, hb⟩ := newB_elim h
  obtain ⟨a1, c1, rfl, ho⟩ := hrow.sl R_Label_ok flat_Label
  have HRd := Lib.hid (ho.rd R_Label_ok (B := w1.heap.size) fun k hk => (hrow.blk k hk).2)
  have HB1 := Lib.hid hb
  have hz1 := hb.size
  clear h hrow ho hb hC
  go_wp2_with fail
  refine (sorted_labs (by omega) hf0 HRd.out).mono ?_
  intro e w2 h
  obtain ⟨g, c, d, rfl, hdc, hcm, hg1, hg2, hRw, hSf, hds, hmem, hso, hb⟩ := srtR_elim h
  have HRw := Lib.hid hRw
  have HSf := Lib.hid hSf
  have HE := Lib.hid (HLC.out d hmem hso)
  have HB2 := Lib.hid (HB1.out.trans (hb.mono hz1))
  have hz2 := HB2.out.size
  have HCM := Lib.hid hcm
  have hd24 : d.size ≤ 24 := by omega
  clear h hRw hSf hmem hso hb hcm hds
  go_wp2_with fail
  have hcp := compact_labs HRw.out HSf.out (by omega) hdc hg2
  have hlen := compact_len_le (d := d) d.size
  unfold CmpR at hcp
  rw [HE.out] at hcp hlen
  refine hcp.mono ?_
  rintro e w3 ⟨rfl, hcl, hSf3, hoff⟩
  have HB3 := Lib.hid (HB2.out.trans (hoff.below hz2 fun k hk => by rw [hk]; omega))
  have HN := Lib.hid (show OwSl R_Label w3 (Rg W.heap.size w3.heap.size) M (some ⟨g, 0, none⟩) c from
    ⟨by omega, HCM.out, fun _ => ⟨g, fun _ _ => False, rfl, ⟨by omega, Nat.lt_of_lt_of_le hg2 hoff.size⟩, hSf3, fun i k h => h.elim, fun i j k _ h => h.elim, fun i x hx => by
      obtain ⟨x0, x1⟩ := x
      obtain ⟨q0, q1⟩ := hcl i _ hx
      exact ⟨[.int .i64 x0, .int .i64 x1], CellsAt.cons.2 ⟨q0, CellsAt.cons.2 ⟨q1, CellsAt.nil⟩⟩, mkow_Label⟩⟩⟩)
  clear hcl hSf3 hoff hlen hcp
  go_wp2
  go_ret
  exact ⟨_, c, rfl, HN.out, HB3.out⟩
end Go.Proofs.YtlgflddljhldhaaGreat.RepC
end
section
namespace Go.Proofs.YtlgflddljhldhaaGreat.RepC
open Go.RowKit RowC ValC SpanC KeptC CfC
set_option linter.unusedVariables false
set_option linter.unusedSimpArgs false
def hitP (f t : D_Label) (p : D_Pair) : Prop := p.1 = f ∧ p.2.1 = t
instance (f t : D_Label) (p : D_Pair) : Decidable (hitP f t p) := by unfold hitP; exact inferInstance
def ixP (P : List D_Pair) (f t : D_Label) : Int := match P.findIdx? (fun p => decide (hitP f t p)) with
  | some i => (i : Int)
  | none => -1
theorem ixP_hit {P : List D_Pair} {f t : D_Label} {k : Nat} {x : D_Pair} (hx : P[k]? = some x) (hh : hitP f t x) (ha : ∀ (q : Nat) y, q < k → P[q]? = some y → ¬ hitP f t y) : ixP P f t = (k : Int) := by
  have h : P.findIdx? (fun p => decide (hitP f t p)) = some k := by
    rw [List.findIdx?_eq_some_iff_getElem]
    obtain ⟨hk, hxe⟩ := List.getElem?_eq_some_iff.1 hx
    refine ⟨hk, by rw [hxe]; exact decide_eq_true hh, fun j hj => ?_⟩
    have := ha j P[j] hj (List.getElem?_eq_getElem _)
    simpa using this
  unfold ixP
  rw [h]
theorem ixP_none {P : List D_Pair} {f t : D_Label} (ha : ∀ (q : Nat) y, P[q]? = some y → ¬ hitP f t y) : ixP P f t = -1 := by
  have h : P.findIdx? (fun p => decide (hitP f t p)) = none := by
    rw [List.findIdx?_eq_none_iff]
    intro x hx
    obtain ⟨i, hi⟩ := List.getElem?_of_mem hx
    exact decide_eq_false (ha i x hi)
  unfold ixP
  rw [h]
theorem ixP_ge {P : List D_Pair} {f t : D_Label} : 0 ≤ ixP P f t ↔ ∃ (q : Nat) (y : D_Pair), P[q]? = some y ∧ hitP f t y := by
  constructor
  · intro h
    refine Classical.byContradiction fun hn => ?_
    rw [ixP_none fun q y hy hh => hn ⟨q, y, hy, hh⟩] at h
    omega
  · rintro ⟨q, y, hy, hh⟩
    refine Classical.byContradiction fun hn => ?_
    unfold ixP at hn
    split at hn
    · omega
    · rename_i h
      rw [List.findIdx?_eq_none_iff] at h
      have := h y (List.mem_of_getElem? hy)
      exact absurd hh (of_decide_eq_false this)
theorem rd_take {α : Type} {E : Rp α} {W : World} {B : Nat} {L : List α} {a : Option Addr} {c : Nat} (h : RdSl E W B L a c) (k : Nat) : RdSl E W B (L.take k) a c := by
  refine ⟨by rw [List.length_take]; have := h.1; omega, h.2.1, fun hk => ?_⟩
  rw [List.length_take] at hk
  obtain ⟨g, o, ha, hg, hc⟩ := h.2.2 (by omega)
  refine ⟨g, o, ha, hg, fun i x hx => hc i x ?_⟩
  rw [List.getElem?_take] at hx
  split at hx
  · exact hx
  · cases hx
set_option maxRecDepth 100000 in
set_option maxHeartbeats 1600000 in
theorem hitp_v (x0 x1 x2 x3 x4 f0 f1 t0 t1 : Int) (b1 b2 : Nat) {b : Bool} {W : World} (hb : decide (hitP (f0, f1) (t0, t1) ((x0, x1), (x2, x3), x4)) = b) (h1 : Blk W b1 47 #[.int .i64 f0, .int .i64 f1]) (h2 : Blk W b2 47 #[.int .i64 t0, .int .i64 t1]) :
    Calls Tryz.prog 82 #[.agg #[.int .i64 x0, .int .i64 x1, .int .i64 x2, .int .i64 x3, .int .i64 x4], .pointer (some ⟨b1, 0, none⟩), .pointer (some ⟨b2, 0, none⟩)] W fun e w' => e = .returned (.bool b) ∧ Below W.heap.size W w' := by
  have HB0 := Lib.hid (show Below W.heap.size W (W.alloc (.cells #[.int .i64 x0, .int .i64 x1, .int .i64 x2, .int .i64 x3, .int .i64 x4] 77)) from (Below.refl _ _).alloc (Nat.le_refl _) _)
  have H1 := h1.alloc (.cells #[.int .i64 x0, .int .i64 x1, .int .i64 x2, .int .i64 x3, .int .i64 x4] 77)
  have H2 := h2.alloc (.cells #[.int .i64 x0, .int .i64 x1, .int .i64 x2, .int .i64 x3, .int .i64 x4] 77)
  have a0 : (W.alloc (.cells #[.int .i64 x0, .int .i64 x1, .int .i64 x2, .int .i64 x3, .int .i64 x4] 77)).cell? ⟨b1, 0, none⟩ = some (.int .i64 f0) := H1.at_ 0 rfl
  have a1 : (W.alloc (.cells #[.int .i64 x0, .int .i64 x1, .int .i64 x2, .int .i64 x3, .int .i64 x4] 77)).cell? ⟨b1, 1, none⟩ = some (.int .i64 f1) := H1.at_ 1 rfl
  have d0 : (W.alloc (.cells #[.int .i64 x0, .int .i64 x1, .int .i64 x2, .int .i64 x3, .int .i64 x4] 77)).cell? ⟨b2, 0, none⟩ = some (.int .i64 t0) := H2.at_ 0 rfl
  have d1 : (W.alloc (.cells #[.int .i64 x0, .int .i64 x1, .int .i64 x2, .int .i64 x3, .int .i64 x4] 77)).cell? ⟨b2, 1, none⟩ = some (.int .i64 t1) := H2.at_ 1 rfl
  clear H1 H2 h1 h2
  obtain ⟨q1, hq1⟩ : ∃ b, decide (((x0, x1) : Int × Int) = (f0, f1)) = b := ⟨_, rfl⟩
  obtain ⟨q2, hq2⟩ : ∃ b, decide (((x2, x3) : Int × Int) = (t0, t1)) = b := ⟨_, rfl⟩
  have hE1 := eql_lab _ _ _ _ _ hq1
  have hE2 := eql_lab _ _ _ _ _ hq2
  have HQ := Lib.hid (show b = (q1 && q2) from by rw [← hb, ← hq1, ← hq2, ← Bool.decide_and]; exact decide_eq_decide.2 Iff.rfl)
  clear hb hq1 hq2
  go_enter Tryz.func82, Tryz.ntmps82
  cases q1 with
  | false =>
    go_wp2
    go_ret
    exact ⟨by rw [HQ.out]; rfl, HB0.out⟩
  | true =>
    go_wp2
    go_ret
    exact ⟨by rw [HQ.out]; rfl, HB0.out⟩
set_option maxRecDepth 100000 in
set_option maxHeartbeats 1600000 in
theorem indexf_pairs {P : List D_Pair} {pa : Option Addr} {pc b1 b2 : Nat} {f0 f1 t0 t1 : Int} {W : World} (hP : RdSl R_Pair W W.heap.size P pa pc) (h1 : Blk W b1 47 #[.int .i64 f0, .int .i64 f1]) (h2 : Blk W b2 47 #[.int .i64 t0, .int .i64 t1]) :
    Calls Tryz.prog 81 #[.slice pa P.length pc, .func (.func 82) #[] #[.pointer (some ⟨b1, 0, none⟩), .pointer (some ⟨b2, 0, none⟩)]] W (IsI (ixP P (f0, f1) (t0, t1)) W) := by
  have hn : P.length ≤ 9223372036854775807 := by have h1 := hP.1; have h2 := hP.2.1; unfold maxLen at h2; omega
  have HP := Lib.hid hP
  have H1 := Lib.hid h1
  have H2 := Lib.hid h2
  clear hP h1 h2
  go_enter Tryz.func81, Tryz.ntmps81
  go_wp2
  go_loopw [8] (fun i wr => ∃ k : Nat, k ≤ P.length ∧ i = .int .i64 k ∧ Hid (∀ (q : Nat) y, q < k → P[q]? = some y → ¬ hitP (f0, f1) (t0, t1) y) ∧ Below W.heap.size W wr) (fun i _ => P.length - (intOf i).toNat)
  case atStart => exact ⟨0, Nat.zero_le _, rfl, Lib.hid fun q y h => absurd h (Nat.not_lt_zero _), Below.refl _ _⟩
  case round =>
    obtain ⟨k, hk, rfl, HA, hB⟩ := hrel
    have HB := Lib.hid hB
    have hsz := hB.size
    by_cases hlt : k < P.length
    · have hdl : decide ((k : Int) < (P.length : Int)) = true := decide_eq_true (by omega)
      obtain ⟨⟨⟨x0, x1⟩, ⟨x2, x3⟩, x4⟩, hx⟩ := el_some hlt
      have HX := Lib.hid hx
      obtain ⟨g, o, us, rfl, hg, hu, hr⟩ := (HP.out.below R_Pair_ok hB).at_ hx
      obtain rfl := rd_Pair hr
      have e0 : wr.cell? ⟨g, o + k * 5, none⟩ = some (.int .i64 x0) := by simpa [size_PairS, Nat.add_assoc] using hu 0 _ rfl
      have e1 : wr.cell? ⟨g, o + k * 5 + 1, none⟩ = some (.int .i64 x1) := by simpa [size_PairS, Nat.add_assoc] using hu 1 _ rfl
      have e2 : wr.cell? ⟨g, o + k * 5 + 2, none⟩ = some (.int .i64 x2) := by simpa [size_PairS, Nat.add_assoc] using hu 2 _ rfl
      have e3 : wr.cell? ⟨g, o + k * 5 + 3, none⟩ = some (.int .i64 x3) := by simpa [size_PairS, Nat.add_assoc] using hu 3 _ rfl
      have e4 : wr.cell? ⟨g, o + k * 5 + 4, none⟩ = some (.int .i64 x4) := by simpa [size_PairS, Nat.add_assoc] using hu 4 _ rfl
      have hi0 : (0 : Int) ≤ (k : Int) := Int.natCast_nonneg _
      have hi1 : (k : Int) < (P.length : Int) := by omega
      have eg : ∀ args w, (callFunc 82 args).run Tryz.prog w = .ok (.enter 82 args) w := enters_of Tryz.func82 (by kernel_rfl) rfl
      obtain ⟨b, hb⟩ : ∃ b, decide (hitP (f0, f1) (t0, t1) ((x0, x1), (x2, x3), x4)) = b := ⟨_, rfl⟩
      have HBb := Lib.hid hb
      clear hB hx hu hr hb
      go_wp2_with fail
      refine (hitp_v x0 x1 x2 x3 x4 f0 f1 t0 t1 b1 b2 HBb.out (H1.out.call HB.out) (H2.out.call HB.out)).mono ?_
      rintro e w1 ⟨rfl, hb⟩
      have HB1 := Lib.hid (HB.out.trans (hb.mono hsz))
      clear hb e0 e1 e2 e3 e4
      cases b with
      | true =>
        have HE := Lib.hid (ixP_hit HX.out (of_decide_eq_true HBb.out) HA.out)
        go_wp2
        go_ret
        exact ⟨by rw [HE.out]; rfl, HB1.out⟩
      | false =>
        have HA2 := Lib.hid (show ∀ (q : Nat) y, q < k + 1 → P[q]? = some y → ¬ hitP (f0, f1) (t0, t1) y from fun q y hq hy => by
          by_cases e : q = k
          · subst e; rw [HX.out] at hy; obtain rfl := Option.some.inj hy
            exact of_decide_eq_false HBb.out
          · exact HA.out q y (by omega) hy)
        go_wp2
        go_roundw
        case rel => exact ⟨k + 1, by omega, by go_num, HA2, HB1.out⟩
        case measure => simp [intOf]; omega
    · have hdl : decide ((k : Int) < (P.length : Int)) = false := decide_eq_false (by omega)
      have HE := Lib.hid (ixP_none (f := (f0, f1)) (t := (t0, t1)) fun q y hy => HA.out q y (by have := el_lt hy; omega) hy)
      clear hB
      go_wp2
      go_ret
      exact ⟨by rw [HE.out]; rfl, HB.out⟩
set_option maxRecDepth 100000 in
set_option maxHeartbeats 1600000 in
theorem pairix_impl {P : List D_Pair} {pa : Option Addr} {pc : Nat} {f0 f1 t0 t1 : Int} {W : World} (hP : RdSl R_Pair W W.heap.size P pa pc) :
    Calls Tryz.prog 45 #[.slice pa P.length pc, .agg #[.int .i64 f0, .int .i64 f1], .agg #[.int .i64 t0, .int .i64 t1]] W (IsI (ixP P (f0, f1) (t0, t1)) W) := by
  have hmf : ∀ (fn : Fn) (first cap : Array Value) (w : World), (Instr.makeFunc fn first cap).run Tryz.prog w = .ok (.func fn first cap) w := fun _ _ _ _ => rfl
  obtain ⟨w0, hw0⟩ : ∃ w, w = (W.alloc (.cells #[.int .i64 f0, .int .i64 f1] 47)).alloc (.cells #[.int .i64 t0, .int .i64 t1] 47) := ⟨_, rfl⟩
  have hb0 : Below W.heap.size W w0 := by rw [hw0]; exact ((Below.refl _ _).alloc (Nat.le_refl _) _).alloc (by simp) _
  have h1 : Blk w0 W.heap.size 47 #[.int .i64 f0, .int .i64 f1] := by rw [hw0]; exact (Blk.new _ _ _).alloc _
  have h2 : Blk w0 (W.heap.size + 1) 47 #[.int .i64 t0, .int .i64 t1] := by
    have h9 := Blk.new (W.alloc (.cells #[.int .i64 f0, .int .i64 f1] 47)) 47 #[.int .i64 t0, .int .i64 t1]
    simp only [World.size_alloc] at h9
    rw [hw0]; exact h9
  have HP := Lib.hid (rd_mv R_Pair_ok hP hb0)
  have H1 := Lib.hid h1
  have H2 := Lib.hid h2
  have HB0 := Lib.hid hb0
  have hz0 := hb0.size
  clear h1 h2 hb0 hP
  go_enter Tryz.func45, Tryz.ntmps45
  go_wp2_with fail
  rw [← hw0]
  clear hw0
  refine (indexf_pairs HP.out H1.out H2.out).mono ?_
  intro e w1 h
  obtain ⟨rfl, hb⟩ := isI_elim h
  have HB1 := Lib.hid (HB0.out.trans (hb.mono hz0))
  clear h hb
  go_wp2
  go_ret
  exact ⟨rfl, HB1.out⟩
end Go.Proofs.YtlgflddljhldhaaGreat.RepC
end
