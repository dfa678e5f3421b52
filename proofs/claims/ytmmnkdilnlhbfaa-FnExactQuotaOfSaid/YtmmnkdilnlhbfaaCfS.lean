/- Labels of a configuration in the model: contract. -/
import Derived.Test.YtmmnkdilnlhbfaaTk
import Derived.Test.YtmmnkdilnlhbfaaTk
import Derived.Test.YtmmnkdilnlhbfaaClr
import Derived.Test.YtmmnkdilnlhbfaaFlatB
import Derived.Test.YtmmnkdilnlhbfaaCfP
import Derived.Deep.RegionHeld3
namespace Go.Proofs.Ytmmnkdilnlhbfaa.RepC
open Go.RowKit RowC ValC SpanC KeptC CfC
set_option linter.unusedVariables false
set_option linter.unusedSimpArgs false

set_option maxRecDepth 100000 in
set_option maxHeartbeats 1600000 in
theorem labs_spec {C : List (List D_Label)} {a : Option Addr} {cap : Nat} {W : World} (h : RdSl (Sl R_Label) W W.heap.size C a cap) :
    Calls Try.prog 77 #[.slice a C.length cap] W (NewS R_Label (labsOf C) W) := by
  have hn : C.length ≤ 9223372036854775807 := by have h1 := h.1; have h2 := h.2.1; unfold maxLen at h2; omega
  have H := Lib.hid h
  clear h
  go_enter Try.func77, Try.ntmps77
  go_wp2
  go_loopw [3, 4] (fun v i wr => ∃ k lo : Nat, k ≤ 32 ∧ i = .int .i64 k ∧ W.heap.size ≤ lo ∧ lo ≤ wr.heap.size ∧ Hid (BRow wr lo v (labsTo C k)) ∧ Below W.heap.size W wr) (fun _ i _ => 32 - (intOf i).toNat)
  case atStart => exact ⟨0, W.heap.size, by omega, rfl, Nat.le_refl _, by simp, Lib.hid (FRow.made _ _ _ _), (Below.refl _ _).alloc (Nat.le_refl _) _⟩
  case round =>
    obtain ⟨k, lo, hk, rfl, hlo, hlw, HV, hB⟩ := hrel
    obtain ⟨wo, rfl⟩ : ∃ x, x = wr := ⟨_, rfl⟩
    have HB := Lib.hid hB
    have hsz := hB.size
    clear hB
    obtain ⟨va, vc, rfl⟩ := HV.out.isSlice
    by_cases hlt : k < 32
    · have hd : decide ((k : Int) < 32) = true := decide_eq_true (by omega)
      obtain ⟨l, hl⟩ : ∃ l : Int, l = (k : Int) / 8 := ⟨_, rfl⟩
      obtain ⟨s, hs⟩ : ∃ s : Int, s = (k : Int) % 8 := ⟨_, rfl⟩
      have hLA := Lib.hid (show labAt k = (l, s) from by unfold labAt; rw [hl, hs]; rfl)
      obtain ⟨w1, hw1⟩ : ∃ w, w = wo.alloc (.cells #[.int .i64 ((k : Int) / 8), .int .i64 ((k : Int) % 8)] 38) := ⟨_, rfl⟩
      have hbA : Below wo.heap.size wo w1 := by rw [hw1]; exact (Below.refl _ _).alloc (Nat.le_refl _) _
      have HP1 := Lib.hid (show Blk w1 wo.heap.size 38 #[.int .i64 l, .int .i64 s] from by rw [hw1, hl, hs]; exact Blk.new _ _ _)
      clear hl hs
      have HB1 := Lib.hid (HB.out.trans (hbA.mono hsz))
      have HV1 := Lib.hid (HV.out.call hbA)
      have hz1 := HB1.out.size
      have hzA := hbA.size
      clear HV
      go_wp2
      rw [← hw1]
      clear hw1
      go_loopw [6, 7] (fun f i wr => ∃ (j : Nat) (b : Bool), j ≤ C.length ∧ i = .int .i64 j ∧ f = .bool b ∧ Hid (b = true ↔ ∃ x ∈ C.take j, (l, s) ∈ x) ∧ Below w1.heap.size w1 wr) (fun _ i _ => C.length - (intOf i).toNat)
      case atStart => exact ⟨0, false, Nat.zero_le _, rfl, rfl, Lib.hid (by simp), Below.refl _ _⟩
      case round =>
        obtain ⟨j, b, hj, rfl, rfl, HQ0, hB⟩ := hrel
        have HB2 := Lib.hid hB
        have HB3 := Lib.hid (HB1.out.trans (hB.mono hz1))
        have HP3 := Lib.hid (HP1.out.call hB)
        have hz2 := hB.size
        clear hB
        by_cases hjl : j < C.length
        · have hd2 : decide ((j : Int) < (C.length : Int)) = true := decide_eq_true (by omega)
          obtain ⟨x, hx⟩ := el_some hjl
          have HX := Lib.hid (show C.take (j + 1) = C.take j ++ [x] from by rw [List.take_add_one, hx]; rfl)
          cases b with
          | true =>
            have HQ1 := Lib.hid (show ∃ x ∈ C.take (j + 1), (l, s) ∈ x from by
              obtain ⟨y, hy, hm⟩ := HQ0.out.1 rfl
              exact ⟨y, by rw [HX.out]; exact List.mem_append_left _ hy, hm⟩)
            clear hx
            go_wp2_with fail
            refine wp_region_held_drew (S := (fun V => Below (wr).heap.size (wr) V)) (by kernel_rfl) ((Below.refl _ _).drew) (fun hHeld => ?_)
            refine tk 0 hHeld ?_
            refine tk 1 hHeld ?_
            refine tn 2 hHeld ?_
            refine tn 3 hHeld ?_
            refine tn 4 hHeld ?_
            refine tn 5 hHeld ?_
            refine tn 6 hHeld ?_
            refine tn 7 hHeld ?_
            refine tk 8 hHeld ?_
            refine tk 9 hHeld ?_
            refine rd0 ?_
            have HF := Lib.hid hHeld
            clear hHeld
            have HB4 := Lib.hid (HB2.out.trans (HF.out.mono hz2))
            clear HF
            go_wp2
            go_roundw
            case rel => exact ⟨j + 1, true, by omega, by go_num, rfl, Lib.hid ⟨fun _ => HQ1.out, fun _ => rfl⟩, HB4.out⟩
            case measure => simp [intOf]; omega
          | false =>
            obtain ⟨g, o, us, rfl, hg, hu, hr⟩ := (H.out.below (Sl_ok R_Label_ok) HB3.out).at_ hx
            obtain ⟨a1, c1, rfl, k_x⟩ := hr
            have e0 : wr.cell? ⟨g, o + j, none⟩ = some (.slice a1 x.length c1) := by simpa [size_SLab] using hu 0 _ rfl
            have hi0 : (0 : Int) ≤ (j : Int) := Int.natCast_nonneg _
            have hi1 : (j : Int) < (C.length : Int) := by omega
            have HG := Lib.hid (show g < wr.heap.size by omega)
            have HK := Lib.hid (k_x.more R_Label_ok (show W.heap.size ≤ wr.heap.size by omega))
            clear hx hu k_x hg
            go_wp2_with fail
            refine wp_region_held_drew (S := (fun V => Below (wr).heap.size (wr) V)) (by kernel_rfl) ((Below.refl _ _).drew) (fun hHeld => ?_)
            refine tk 0 hHeld ?_
            refine tk 1 hHeld ?_
            refine tk 2 hHeld ?_
            refine tk 3 hHeld ?_
            refine tk 4 hHeld ?_
            refine tk 5 hHeld ?_ (hy := fun w hSw => by (try dsimp only at hSw); have k0 := (hSw.cell (p := ⟨g, o + j, none⟩) HG.out).trans e0; clear hSw; go_simp; try with_reducible rfl)
            refine tk 6 hHeld ?_ (hy := fun w hSw => by (try dsimp only at hSw); have k0 := (hSw.cell (p := ⟨wo.heap.size, 0, none⟩) HP3.out.lt).trans (HP3.out.at_ 0 rfl); have k1 := (hSw.cell (p := ⟨wo.heap.size, 1, none⟩) HP3.out.lt).trans (HP3.out.at_ 1 rfl); clear hSw; go_simp; try with_reducible rfl)
            refine rd1 7 (fun K hK => ?_)
            go_simp
            go_at_call 42
            refine (cleared_spec (rd_mv R_Label_ok HK.out hHeld)).mono ?_
            intro e w4 h
            obtain ⟨q, rfl, hq2, hb⟩ := resB_elim h
            have HQ := Lib.hid hq2
            clear h hq2
            refine hK.out _ _ (hHeld.trans (hb.mono hHeld.size)) (fun hHeld => ?_)
            clear hK K hb
            refine tk 8 hHeld ?_
            refine tk 9 hHeld ?_
            refine rd0 ?_
            have HF := Lib.hid hHeld
            clear hHeld
            have HQ1 := Lib.hid (show q = true ↔ ∃ x ∈ C.take (j + 1), (l, s) ∈ x from by
              rw [HX.out, HQ.out]
              constructor
              · intro hm; exact ⟨x, List.mem_append_right _ (List.mem_singleton.2 rfl), hm⟩
              · rintro ⟨y, hy, hm⟩
                rcases List.mem_append.1 hy with hy | hy
                · exact absurd (HQ0.out.2 ⟨y, hy, hm⟩) (by simp)
                · rw [List.mem_singleton] at hy; subst hy; exact hm)
            have HB4 := Lib.hid (HB2.out.trans (HF.out.mono hz2))
            clear HF
            go_wp2
            go_roundw
            case rel => exact ⟨j + 1, q, by omega, by go_num, rfl, HQ1, HB4.out⟩
            case measure => simp [intOf]; omega
        · have hd2 : decide ((j : Int) < (C.length : Int)) = false := decide_eq_false (by omega)
          have HT := Lib.hid (show C.take j = C from List.take_of_length_le (by omega))
          have HV3 := Lib.hid (HV1.out.call HB2.out)
          cases b with
          | false =>
            have HE := Lib.hid (show labsTo C (k + 1) = labsTo C k from labsTo_no (by
              rw [hLA.out]; intro hm
              rw [← HT.out] at hm
              exact absurd (HQ0.out.2 hm) (by simp)))
            go_wp2
            go_roundw
            case rel => exact ⟨k + 1, lo, by omega, by go_num, hlo, by omega, Lib.hid (by rw [HE.out]; exact HV3.out), HB3.out⟩
            case measure => simp [intOf]; omega
          | true =>
            have HE := Lib.hid (show labsTo C (k + 1) = labsTo C k ++ [(l, s)] from by
              rw [← hLA.out]
              refine labsTo_yes ?_
              rw [hLA.out]
              have := HQ0.out.1 rfl
              rw [HT.out] at this
              exact this)
            have q0 := HP3.out.at_ 0 rfl
            have q1 := HP3.out.at_ 1 rfl
            obtain ⟨w5, hw5⟩ : ∃ w, w = wr.alloc (.cells #[.int .i64 l, .int .i64 s] 38) := ⟨_, rfl⟩
            have hbB : Below wr.heap.size wr w5 := by rw [hw5]; exact (Below.refl _ _).alloc (Nat.le_refl _) _
            have HP5 : Blk w5 wr.heap.size 38 #[.int .i64 l, .int .i64 s] := by rw [hw5]; exact Blk.new _ _ _
            have hlen := labsTo_len C k
            have hz5 := hbB.size
            obtain ⟨a', c', w6, hrun, hrow, hb6⟩ := BRow.more (HV3.out.call hbB) (rd_oneL l s HP5) (show lo ≤ w5.heap.size by omega) (by simp only [List.length_singleton]; omega)
            have HR := Lib.hid hrun
            have HV6 := Lib.hid hrow
            have HB6 := Lib.hid ((HB3.out.trans (hbB.mono (by omega))).trans (hb6.mono (by omega)))
            have hz6 := hb6.size
            rw [hw5] at HR
            have HW5 := Lib.hid hw5
            clear hrun hrow hb6 hbB HP5 hw5
            go_wp2_with (at_builtin; refine wpList_app rfl (.tmp 34) (.tmp 36) 73 rfl rfl rfl HR.out ?_)
            go_roundw
            case rel => exact ⟨k + 1, lo, by omega, by go_num, hlo, by omega, Lib.hid (by rw [HE.out]; simpa using HV6.out), HB6.out⟩
            case measure => simp [intOf]; omega
    · have hd : decide ((k : Int) < 32) = false := decide_eq_false (by omega)
      obtain rfl : k = 32 := by omega
      go_wp2
      go_ret
      exact FRow.news R_Label_ok flat_Label HV.out hlo HB.out
end Go.Proofs.Ytmmnkdilnlhbfaa.RepC
