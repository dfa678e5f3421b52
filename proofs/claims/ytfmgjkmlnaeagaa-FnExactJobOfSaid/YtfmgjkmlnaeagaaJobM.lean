/- Numbers of jobs, and lists of jobs, in the model: contracts. -/
import Derived.Test.YtfmgjkmlnaeagaaTk
import Derived.Test.YtfmgjkmlnaeagaaJobAI
namespace Go.Proofs.Ytfmgjkmlnaeagaa.RepC
open Go.RowKit RowC ValC SpanC KeptC
set_option linter.unusedVariables false
set_option linter.unusedSimpArgs false

def ofL (l s : Int) (d : D_Job) : Bool := d.1.1 == l && d.1.2 == s
def cnt (L : List D_Job) (l s : Int) : Nat := (L.filter (ofL l s)).length
theorem cnt_nil (l s : Int) : cnt [] l s = 0 := rfl
theorem cnt_le (L : List D_Job) (l s : Int) : cnt L l s ≤ L.length := List.length_filter_le _ _
theorem take_at {L : List D_Job} {k : Nat} {d : D_Job} (h : L[k]? = some d) : L.take (k + 1) = L.take k ++ [d] := by
  rw [List.take_add_one, h]; rfl
theorem cnt_hit {L : List D_Job} {k : Nat} {d : D_Job} {l s : Int} (h : L[k]? = some d) (h1 : (d.1.1 == l) = true) (h2 : (d.1.2 == s) = true) : cnt (L.take (k + 1)) l s = cnt (L.take k) l s + 1 := by
  unfold cnt
  rw [take_at h, List.filter_append]
  simp [List.filter, ofL, h1, h2]
theorem cnt_miss {L : List D_Job} {k : Nat} {d : D_Job} {l s : Int} (h : L[k]? = some d) (h1 : ofL l s d = false) : cnt (L.take (k + 1)) l s = cnt (L.take k) l s := by
  unfold cnt
  rw [take_at h, List.filter_append]
  simp [List.filter, h1]

set_option maxRecDepth 100000 in
set_option maxHeartbeats 3200000 in
theorem many_spec {L : List D_Job} {n m : Nat} {a : Option Addr} {cap : Nat} {l s : Int} {W : World} (hL : L.length = n) (hM : cnt L l s = m) (h : RdSl R_Job W W.heap.size L a cap) :
    Calls Try.prog 37 #[.slice a n cap, .agg #[.int .i64 l, .int .i64 s]] W (IsI m W) := by
  subst hL
  have hn : L.length ≤ 9223372036854775807 := by have h1 := h.1; have h2 := h.2.1; unfold maxLen at h2; omega
  have H := Lib.hid h
  have HM := Lib.hid hM
  clear h hM
  have HB0 := Lib.hid (show Below W.heap.size W (W.alloc (.cells #[.int .i64 l, .int .i64 s] 29)) from (Below.refl _ _).alloc (Nat.le_refl _) _)
  have HP0 := Lib.hid (Blk.new W 29 #[.int .i64 l, .int .i64 s])
  go_enter Try.func37, Try.ntmps37
  go_wp2
  go_loopw [5, 6] (fun z i wr => ∃ k : Nat, k ≤ L.length ∧ i = .int .i64 k ∧ z = .int .i64 (cnt (L.take k) l s : Nat) ∧ Below W.heap.size W wr ∧ Hid (Blk wr W.heap.size 29 #[.int .i64 l, .int .i64 s])) (fun _ i _ => L.length - (intOf i).toNat)
  case atStart => exact ⟨0, Nat.zero_le _, rfl, rfl, HB0.out, HP0⟩
  case round =>
    obtain ⟨k, hk, rfl, rfl, hB, HP⟩ := hrel
    have HB := Lib.hid hB
    have hsz := hB.size
    by_cases hlt : k < L.length
    · skip
      obtain ⟨⟨⟨x0, x1⟩, x2, x3, x4, x5, x6, x7, L0⟩, hx⟩ := el_some hlt
      have HX := Lib.hid hx
      obtain ⟨g, o, us, rfl, hg, hu, hr⟩ := (H.out.below R_Job_ok hB).at_ hx
      obtain ⟨a0, c0, rfl, k_L0⟩ := rd_Job hr
      have e0 : wr.cell? ⟨g, o + k * 9, none⟩ = some (.int .i64 x0) := by simpa [sizeq_JobS, Nat.add_assoc] using hu 0 _ rfl
      have e1 : wr.cell? ⟨g, o + k * 9 + 1, none⟩ = some (.int .i64 x1) := by simpa [sizeq_JobS, Nat.add_assoc] using hu 1 _ rfl
      have e2 : wr.cell? ⟨g, o + k * 9 + 2, none⟩ = some (.int .i64 x2) := by simpa [sizeq_JobS, Nat.add_assoc] using hu 2 _ rfl
      have hgl : g < wr.heap.size := Nat.lt_of_lt_of_le hg hsz
      have hi0 : (0 : Int) ≤ (k : Int) := Int.natCast_nonneg _
      have hi1 : (k : Int) < (L.length : Int) := by omega
      have hq0 := HP.out.at_ 0 rfl
      have hq1 := HP.out.at_ 1 rfl
      have hpl := HP.out.lt
      have hcl : cnt (L.take k) l s ≤ k := Nat.le_trans (cnt_le _ _ _) (by rw [List.length_take]; omega)
      have hwr : IntKind.i64.wrap ((cnt (L.take k) l s : Nat) + 1) = ((cnt (L.take k) l s : Nat) : Int) + 1 := IntWalk.i64_in _ (by omega)
      clear hB hx hu hr
      cases c1 : (x0 == l) with
      | false =>
        have HC := Lib.hid (cnt_miss (l := l) (s := s) HX.out (by simp [ofL, c1]))
        go_wp2_with fail
        refine wp_region_held_drew (S := (fun V => Below (wr).heap.size (wr) V)) (by kernel_rfl) ((Below.refl _ _).drew) (fun hHeld => ?_)
        refine tk 0 hHeld ?_
        refine tk 1 hHeld ?_
        refine tk 2 hHeld ?_
        refine tk 3 hHeld ?_
        refine tk 4 hHeld ?_ (hy := fun w hSw => by (try dsimp only at hSw); have k0 := (hSw.cell (p := ⟨g, o + k * 9, none⟩) hgl).trans e0; have k1 := (hSw.cell (p := ⟨g, o + k * 9 + 1, none⟩) hgl).trans e1; clear hSw; go_simp; try with_reducible rfl)
        refine tk 5 hHeld ?_ (hy := fun w hSw => by (try dsimp only at hSw); have k0 := (hSw.cell (p := ⟨W.heap.size, 0, none⟩) hpl).trans hq0; have k1 := (hSw.cell (p := ⟨W.heap.size, 1, none⟩) hpl).trans hq1; clear hSw; go_simp; try with_reducible rfl)
        refine tk 6 hHeld ?_
        refine rd0 ?_
        have HF := Lib.hid hHeld
        clear hHeld
        have HB3 := Lib.hid (HB.out.trans (HF.out.mono hsz))
        have HP3 := Lib.hid (HP.out.call HF.out)
        clear HF
        go_wp2
        go_roundw
        case rel => exact ⟨k + 1, by omega, by go_num, by rw [HC.out], HB3.out, HP3⟩
        case measure => simp [intOf]; omega
      | true =>
        cases c2 : (x1 == s) with
        | false =>
          have HC := Lib.hid (cnt_miss (l := l) (s := s) HX.out (by simp [ofL, c1, c2]))
          go_wp2_with fail
          refine wp_region_held_drew (S := (fun V => Below (wr).heap.size (wr) V)) (by kernel_rfl) ((Below.refl _ _).drew) (fun hHeld => ?_)
          refine tk 0 hHeld ?_
          refine tk 1 hHeld ?_
          refine tk 2 hHeld ?_
          refine tk 3 hHeld ?_
          refine tk 4 hHeld ?_ (hy := fun w hSw => by (try dsimp only at hSw); have k0 := (hSw.cell (p := ⟨g, o + k * 9, none⟩) hgl).trans e0; have k1 := (hSw.cell (p := ⟨g, o + k * 9 + 1, none⟩) hgl).trans e1; clear hSw; go_simp; try with_reducible rfl)
          refine tk 5 hHeld ?_ (hy := fun w hSw => by (try dsimp only at hSw); have k0 := (hSw.cell (p := ⟨W.heap.size, 0, none⟩) hpl).trans hq0; have k1 := (hSw.cell (p := ⟨W.heap.size, 1, none⟩) hpl).trans hq1; clear hSw; go_simp; try with_reducible rfl)
          refine tk 6 hHeld ?_
          refine rd0 ?_
          have HF := Lib.hid hHeld
          clear hHeld
          have HB3 := Lib.hid (HB.out.trans (HF.out.mono hsz))
          have HP3 := Lib.hid (HP.out.call HF.out)
          clear HF
          go_wp2
          go_roundw
          case rel => exact ⟨k + 1, by omega, by go_num, by rw [HC.out], HB3.out, HP3⟩
          case measure => simp [intOf]; omega
        | true =>
          have HC := Lib.hid (cnt_hit HX.out c1 c2)
          go_wp2_with fail
          refine wp_region_held_drew (S := (fun V => Below (wr).heap.size (wr) V)) (by kernel_rfl) ((Below.refl _ _).drew) (fun hHeld => ?_)
          refine tk 0 hHeld ?_
          refine tk 1 hHeld ?_
          refine tk 2 hHeld ?_
          refine tk 3 hHeld ?_
          refine tk 4 hHeld ?_ (hy := fun w hSw => by (try dsimp only at hSw); have k0 := (hSw.cell (p := ⟨g, o + k * 9, none⟩) hgl).trans e0; have k1 := (hSw.cell (p := ⟨g, o + k * 9 + 1, none⟩) hgl).trans e1; clear hSw; go_simp; try with_reducible rfl)
          refine tk 5 hHeld ?_ (hy := fun w hSw => by (try dsimp only at hSw); have k0 := (hSw.cell (p := ⟨W.heap.size, 0, none⟩) hpl).trans hq0; have k1 := (hSw.cell (p := ⟨W.heap.size, 1, none⟩) hpl).trans hq1; clear hSw; go_simp; try with_reducible rfl)
          refine tk 6 hHeld ?_
          refine rd0 ?_
          have HF := Lib.hid hHeld
          clear hHeld
          have HB3 := Lib.hid (HB.out.trans (HF.out.mono hsz))
          have HP3 := Lib.hid (HP.out.call HF.out)
          clear HF
          go_wp2
          go_roundw
          case rel => exact ⟨k + 1, by omega, by go_num, by rw [HC.out]; go_num, HB3.out, HP3⟩
          case measure => simp [intOf]; omega
    · have HC := Lib.hid (show cnt (L.take k) l s = m from by rw [List.take_of_length_le (by omega), HM.out])
      clear hB
      go_wp2
      go_ret
      exact ⟨by rw [HC.out]; rfl, HB.out⟩

def JobRD (d : D_Job) : Prop := JobR d.1.1 d.1.2 d.2.1 d.2.2.1 d.2.2.2.1 d.2.2.2.2.1 d.2.2.2.2.2.1 d.2.2.2.2.2.2.1 d.2.2.2.2.2.2.2
def okJ (L : List D_Job) (j : Nat) : Prop := ∀ d, L[j]? = some d → JobRD d ∧ d.2.1 = (cnt (L.take (j + 1)) d.1.1 d.1.2 : Nat)
def JobsR (L : List D_Job) : Prop := L.length ≤ 96 ∧ ∀ j, j < L.length → okJ L j
theorem rd_call {L : List Int} {a : Option Addr} {c : Nat} {w w' : World} (h : RdSl I w w.heap.size L a c) (hb : Below w.heap.size w w') : RdSl I w' w'.heap.size L a c := (h.below I_ok hb).more I_ok hb.size
theorem rd_mv {α : Type} {E : Rp α} (hE : Ok E) {L : List α} {a : Option Addr} {c : Nat} {w w' : World} (h : RdSl E w w.heap.size L a c) (hb : Below w.heap.size w w') : RdSl E w' w'.heap.size L a c := (h.below hE hb).more hE hb.size
theorem RdSl.take {α : Type} {E : Rp α} {W : World} {B : Nat} {L : List α} {a : Option Addr} {cap : Nat} (h : RdSl E W B L a cap) (n : Nat) : RdSl E W B (L.take n) a cap := by
  obtain ⟨h1, h2, h3⟩ := h
  refine ⟨Nat.le_trans (by rw [List.length_take]; omega) h1, h2, fun hn => ?_⟩
  obtain ⟨g, o, ha, hg, hc⟩ := h3 (by rw [List.length_take] at hn; omega)
  refine ⟨g, o, ha, hg, fun i x hx => hc i x ?_⟩
  rw [List.getElem?_take] at hx
  split at hx
  · exact hx
  · cases hx

set_option maxRecDepth 100000 in
set_option maxHeartbeats 6400000 in
theorem jobs_spec {L : List D_Job} {a : Option Addr} {cap : Nat} {W : World} (h : RdSl R_Job W W.heap.size L a cap) :
    Calls Try.prog 13 #[.slice a L.length cap] W (ResB (JobsR L) W) := by
  have hn : L.length ≤ 9223372036854775807 := by have h1 := h.1; have h2 := h.2.1; unfold maxLen at h2; omega
  have hlc := h.1
  have hcm : cap ≤ 9223372036854775807 := by have h2 := h.2.1; unfold maxLen at h2; omega
  have H := Lib.hid h
  clear h
  go_enter Try.func13, Try.ntmps13
  go_wp2
  go_loopw [3] (fun i wr => ∃ k : Nat, k ≤ L.length ∧ k ≤ 97 ∧ i = .int .i64 k ∧ Hid (∀ j, j < k → okJ L j) ∧ Below W.heap.size W wr) (fun i _ => L.length - (intOf i).toNat)
  case atStart => exact ⟨0, Nat.zero_le _, by omega, rfl, Lib.hid fun j h => absurd h (Nat.not_lt_zero _), Below.refl _ _⟩
  case round =>
    obtain ⟨k, hk, hk97, rfl, HA, hB⟩ := hrel
    have HB := Lib.hid hB
    have hsz := hB.size
    by_cases hlt : k < L.length
    · by_cases h96 : k ≤ 96
      · have hd1 : decide ((k : Int) < (L.length : Int)) = true := decide_eq_true (by omega)
        have hd2 : decide ((k : Int) ≤ 96) = true := decide_eq_true (by omega)
        obtain ⟨⟨⟨x0, x1⟩, x2, x3, x4, x5, x6, x7, L0⟩, hx⟩ := el_some hlt
        have HX := Lib.hid hx
        obtain ⟨g, o, us, rfl, hg, hu, hr⟩ := (H.out.below R_Job_ok hB).at_ hx
        obtain ⟨a0, c0, rfl, k_L0⟩ := rd_Job hr
        have e0 : wr.cell? ⟨g, o + k * 9, none⟩ = some (.int .i64 x0) := by simpa [sizeq_JobS, Nat.add_assoc] using hu 0 _ rfl
        have e1 : wr.cell? ⟨g, o + k * 9 + 1, none⟩ = some (.int .i64 x1) := by simpa [sizeq_JobS, Nat.add_assoc] using hu 1 _ rfl
        have e2 : wr.cell? ⟨g, o + k * 9 + 2, none⟩ = some (.int .i64 x2) := by simpa [sizeq_JobS, Nat.add_assoc] using hu 2 _ rfl
        have e3 : wr.cell? ⟨g, o + k * 9 + 3, none⟩ = some (.int .i64 x3) := by simpa [sizeq_JobS, Nat.add_assoc] using hu 3 _ rfl
        have e4 : wr.cell? ⟨g, o + k * 9 + 4, none⟩ = some (.int .i64 x4) := by simpa [sizeq_JobS, Nat.add_assoc] using hu 4 _ rfl
        have e5 : wr.cell? ⟨g, o + k * 9 + 5, none⟩ = some (.int .i64 x5) := by simpa [sizeq_JobS, Nat.add_assoc] using hu 5 _ rfl
        have e6 : wr.cell? ⟨g, o + k * 9 + 6, none⟩ = some (.int .i64 x6) := by simpa [sizeq_JobS, Nat.add_assoc] using hu 6 _ rfl
        have e7 : wr.cell? ⟨g, o + k * 9 + 7, none⟩ = some (.int .i64 x7) := by simpa [sizeq_JobS, Nat.add_assoc] using hu 7 _ rfl
        have e8 : wr.cell? ⟨g, o + k * 9 + 8, none⟩ = some (.slice a0 L0.length c0) := by simpa [sizeq_JobS, Nat.add_assoc] using hu 8 _ rfl
        have hgl : g < wr.heap.size := Nat.lt_of_lt_of_le hg hsz
        have hi0 : (0 : Int) ≤ (k : Int) := Int.natCast_nonneg _
        have hi1 : (k : Int) < (L.length : Int) := by omega
        have hj0 : (0 : Int) ≤ (k : Int) + 1 := by omega
        have hj1 : (k : Int) + 1 ≤ (cap : Int) := by omega
        have hjw : IntKind.i64.wrap ((k : Int) + 1) = (k : Int) + 1 := IntWalk.i64_in _ (by omega)
        obtain ⟨m, hm⟩ : ∃ m, cnt (L.take (k + 1)) x0 x1 = m := ⟨_, rfl⟩
        have HM := Lib.hid hm
        have HR := Lib.hid (show RdSl I wr wr.heap.size L0 a0 c0 from k_L0.more I_ok hsz)
        have HT := Lib.hid (show RdSl R_Job wr wr.heap.size (L.take (k + 1)) (some ⟨g, o, none⟩) cap from ((H.out.below R_Job_ok hB).more R_Job_ok hsz).take (k + 1))
        have HTL := Lib.hid (show (L.take (k + 1)).length = k + 1 from by rw [List.length_take]; omega)
        clear hB hx hu hr k_L0 hm
        by_cases hjr : JobR x0 x1 x2 x3 x4 x5 x6 x7 L0
        · have HJ := Lib.hid hjr
          cases hne : (x2 != (m : Int)) with
          | true =>
            have HNo := Lib.hid (show ¬ JobsR L from fun h => by
              have h2 := (h.2 k hlt _ HX.out).2
              simp only [HM.out] at h2
              rw [bne_iff_ne] at hne
              exact hne h2)
            clear hjr
            go_wp2_with fail
            refine wp_region_held_drew (S := (fun V => Below (wr).heap.size (wr) V)) (by kernel_rfl) ((Below.refl _ _).drew) (fun hHeld => ?_)
            refine tk 0 hHeld ?_
            refine tk 1 hHeld ?_
            refine tk 2 hHeld ?_
            refine tk 3 hHeld ?_ (hy := fun w hSw => by (try dsimp only at hSw); have k0 := (hSw.cell (p := ⟨g, o + k * 9, none⟩) hgl).trans e0; have k1 := (hSw.cell (p := ⟨g, o + k * 9 + 1, none⟩) hgl).trans e1; have k2 := (hSw.cell (p := ⟨g, o + k * 9 + 2, none⟩) hgl).trans e2; have k3 := (hSw.cell (p := ⟨g, o + k * 9 + 3, none⟩) hgl).trans e3; have k4 := (hSw.cell (p := ⟨g, o + k * 9 + 4, none⟩) hgl).trans e4; have k5 := (hSw.cell (p := ⟨g, o + k * 9 + 5, none⟩) hgl).trans e5; have k6 := (hSw.cell (p := ⟨g, o + k * 9 + 6, none⟩) hgl).trans e6; have k7 := (hSw.cell (p := ⟨g, o + k * 9 + 7, none⟩) hgl).trans e7; have k8 := (hSw.cell (p := ⟨g, o + k * 9 + 8, none⟩) hgl).trans e8; clear hSw; go_simp; try with_reducible rfl)
            refine rd1 4 (fun K hK => ?_)
            go_simp
            go_at_call 8
            refine (jobright_spec (rd_call HR.out hHeld)).mono ?_
            intro e w1 h
            obtain ⟨q, rfl, hq, hb⟩ := resB_elim h
            obtain rfl : q = true := hq.2 HJ.out
            clear h hq
            refine hK.out _ _ (hHeld.trans (hb.mono hHeld.size)) (fun hHeld => ?_)
            clear hK K hb
            refine tk 5 hHeld ?_
            refine tk 6 hHeld ?_
            refine tk 7 hHeld ?_
            refine tk 8 hHeld ?_
            refine tk 9 hHeld ?_
            refine tk 10 hHeld ?_
            refine tk 11 hHeld ?_ (hy := fun w hSw => by (try dsimp only at hSw); have k0 := (hSw.cell (p := ⟨g, o + k * 9 + 2, none⟩) hgl).trans e2; clear hSw; go_simp; try with_reducible rfl)
            refine tk 12 hHeld ?_
            refine tk 13 hHeld ?_
            refine tk 14 hHeld ?_
            refine tk 15 hHeld ?_
            refine tk 16 hHeld ?_
            refine tk 17 hHeld ?_
            refine tk 18 hHeld ?_
            refine tk 19 hHeld ?_
            refine tk 20 hHeld ?_ (hy := fun w hSw => by (try dsimp only at hSw); have k0 := (hSw.cell (p := ⟨g, o + k * 9, none⟩) hgl).trans e0; have k1 := (hSw.cell (p := ⟨g, o + k * 9 + 1, none⟩) hgl).trans e1; clear hSw; go_simp; try with_reducible rfl)
            refine rd1 21 (fun K hK => ?_)
            go_simp
            go_at_call 37
            refine (many_spec HTL.out HM.out (rd_mv R_Job_ok HT.out hHeld)).mono ?_
            intro e w2 h
            obtain ⟨rfl, hb⟩ := isI_elim h
            clear h
            refine hK.out _ _ (hHeld.trans (hb.mono hHeld.size)) (fun hHeld => ?_)
            clear hK K hb
            refine tk 22 hHeld ?_
            refine tk 23 hHeld ?_
            refine rd0 ?_
            have HF := Lib.hid hHeld
            clear hHeld
            have HB3 := Lib.hid (HB.out.trans (HF.out.mono hsz))
            clear HF
            go_wp2
            go_ret
            exact resB_no HNo.out HB3.out
          | false =>
            have HOK := Lib.hid (all_step HA.out (show okJ L k from fun d hd => by
              have := HX.out; rw [hd] at this; obtain rfl := Option.some.inj this
              refine ⟨HJ.out, ?_⟩
              simp only [HM.out]
              simpa using hne))
            clear hjr
            go_wp2_with fail
            refine wp_region_held_drew (S := (fun V => Below (wr).heap.size (wr) V)) (by kernel_rfl) ((Below.refl _ _).drew) (fun hHeld => ?_)
            refine tk 0 hHeld ?_
            refine tk 1 hHeld ?_
            refine tk 2 hHeld ?_
            refine tk 3 hHeld ?_ (hy := fun w hSw => by (try dsimp only at hSw); have k0 := (hSw.cell (p := ⟨g, o + k * 9, none⟩) hgl).trans e0; have k1 := (hSw.cell (p := ⟨g, o + k * 9 + 1, none⟩) hgl).trans e1; have k2 := (hSw.cell (p := ⟨g, o + k * 9 + 2, none⟩) hgl).trans e2; have k3 := (hSw.cell (p := ⟨g, o + k * 9 + 3, none⟩) hgl).trans e3; have k4 := (hSw.cell (p := ⟨g, o + k * 9 + 4, none⟩) hgl).trans e4; have k5 := (hSw.cell (p := ⟨g, o + k * 9 + 5, none⟩) hgl).trans e5; have k6 := (hSw.cell (p := ⟨g, o + k * 9 + 6, none⟩) hgl).trans e6; have k7 := (hSw.cell (p := ⟨g, o + k * 9 + 7, none⟩) hgl).trans e7; have k8 := (hSw.cell (p := ⟨g, o + k * 9 + 8, none⟩) hgl).trans e8; clear hSw; go_simp; try with_reducible rfl)
            refine rd1 4 (fun K hK => ?_)
            go_simp
            go_at_call 8
            refine (jobright_spec (rd_call HR.out hHeld)).mono ?_
            intro e w1 h
            obtain ⟨q, rfl, hq, hb⟩ := resB_elim h
            obtain rfl : q = true := hq.2 HJ.out
            clear h hq
            refine hK.out _ _ (hHeld.trans (hb.mono hHeld.size)) (fun hHeld => ?_)
            clear hK K hb
            refine tk 5 hHeld ?_
            refine tk 6 hHeld ?_
            refine tk 7 hHeld ?_
            refine tk 8 hHeld ?_
            refine tk 9 hHeld ?_
            refine tk 10 hHeld ?_
            refine tk 11 hHeld ?_ (hy := fun w hSw => by (try dsimp only at hSw); have k0 := (hSw.cell (p := ⟨g, o + k * 9 + 2, none⟩) hgl).trans e2; clear hSw; go_simp; try with_reducible rfl)
            refine tk 12 hHeld ?_
            refine tk 13 hHeld ?_
            refine tk 14 hHeld ?_
            refine tk 15 hHeld ?_
            refine tk 16 hHeld ?_
            refine tk 17 hHeld ?_
            refine tk 18 hHeld ?_
            refine tk 19 hHeld ?_
            refine tk 20 hHeld ?_ (hy := fun w hSw => by (try dsimp only at hSw); have k0 := (hSw.cell (p := ⟨g, o + k * 9, none⟩) hgl).trans e0; have k1 := (hSw.cell (p := ⟨g, o + k * 9 + 1, none⟩) hgl).trans e1; clear hSw; go_simp; try with_reducible rfl)
            refine rd1 21 (fun K hK => ?_)
            go_simp
            go_at_call 37
            refine (many_spec HTL.out HM.out (rd_mv R_Job_ok HT.out hHeld)).mono ?_
            intro e w2 h
            obtain ⟨rfl, hb⟩ := isI_elim h
            clear h
            refine hK.out _ _ (hHeld.trans (hb.mono hHeld.size)) (fun hHeld => ?_)
            clear hK K hb
            refine tk 22 hHeld ?_
            refine tk 23 hHeld ?_
            refine rd0 ?_
            have HF := Lib.hid hHeld
            clear hHeld
            have HB3 := Lib.hid (HB.out.trans (HF.out.mono hsz))
            clear HF
            go_wp2
            go_roundw
            case rel => exact ⟨k + 1, by omega, by omega, by go_num, HOK, HB3.out⟩
            case measure => simp [intOf]; omega
        · have HNo := Lib.hid (show ¬ JobsR L from fun h => hjr (h.2 k hlt _ HX.out).1)
          have HJ := Lib.hid hjr
          clear hjr
          go_wp2_with fail
          refine wp_region_held_drew (S := (fun V => Below (wr).heap.size (wr) V)) (by kernel_rfl) ((Below.refl _ _).drew) (fun hHeld => ?_)
          refine tk 0 hHeld ?_
          refine tk 1 hHeld ?_
          refine tk 2 hHeld ?_
          refine tk 3 hHeld ?_ (hy := fun w hSw => by (try dsimp only at hSw); have k0 := (hSw.cell (p := ⟨g, o + k * 9, none⟩) hgl).trans e0; have k1 := (hSw.cell (p := ⟨g, o + k * 9 + 1, none⟩) hgl).trans e1; have k2 := (hSw.cell (p := ⟨g, o + k * 9 + 2, none⟩) hgl).trans e2; have k3 := (hSw.cell (p := ⟨g, o + k * 9 + 3, none⟩) hgl).trans e3; have k4 := (hSw.cell (p := ⟨g, o + k * 9 + 4, none⟩) hgl).trans e4; have k5 := (hSw.cell (p := ⟨g, o + k * 9 + 5, none⟩) hgl).trans e5; have k6 := (hSw.cell (p := ⟨g, o + k * 9 + 6, none⟩) hgl).trans e6; have k7 := (hSw.cell (p := ⟨g, o + k * 9 + 7, none⟩) hgl).trans e7; have k8 := (hSw.cell (p := ⟨g, o + k * 9 + 8, none⟩) hgl).trans e8; clear hSw; go_simp; try with_reducible rfl)
          refine rd1 4 (fun K hK => ?_)
          go_simp
          go_at_call 8
          refine (jobright_spec (rd_call HR.out hHeld)).mono ?_
          intro e w1 h
          obtain ⟨q, rfl, hq, hb⟩ := resB_elim h
          obtain rfl : q = false := by cases q with | false => rfl | true => exact absurd (hq.1 rfl) HJ.out
          clear h hq
          refine hK.out _ _ (hHeld.trans (hb.mono hHeld.size)) (fun hHeld => ?_)
          clear hK K hb
          refine tk 5 hHeld ?_
          refine tk 6 hHeld ?_
          refine tn 7 hHeld ?_
          refine tn 8 hHeld ?_
          refine tn 9 hHeld ?_
          refine tn 10 hHeld ?_
          refine tn 11 hHeld ?_
          refine tn 12 hHeld ?_
          refine tn 13 hHeld ?_
          refine tn 14 hHeld ?_
          refine tn 15 hHeld ?_
          refine tn 16 hHeld ?_
          refine tn 17 hHeld ?_
          refine tn 18 hHeld ?_
          refine tn 19 hHeld ?_
          refine tn 20 hHeld ?_
          refine tn 21 hHeld ?_
          refine tn 22 hHeld ?_
          refine tk 23 hHeld ?_
          refine rd0 ?_
          have HF := Lib.hid hHeld
          clear hHeld
          have HB3 := Lib.hid (HB.out.trans (HF.out.mono hsz))
          clear HF
          go_wp2
          go_ret
          exact resB_no HNo.out HB3.out
      · have hd1 : decide ((k : Int) < (L.length : Int)) = true := decide_eq_true (by omega)
        have hd2 : decide ((k : Int) ≤ 96) = false := decide_eq_false (by omega)
        have hd3 : decide ((L.length : Int) ≤ 96) = false := decide_eq_false (by omega)
        have HNo := Lib.hid (show ¬ JobsR L from fun h => by have := h.1; omega)
        clear hB
        go_wp2
        go_ret
        exact resB_no HNo.out HB.out
    · have hd1 : decide ((k : Int) < (L.length : Int)) = false := decide_eq_false (by omega)
      by_cases h9 : L.length ≤ 96
      · have hd3 : decide ((L.length : Int) ≤ 96) = true := decide_eq_true (by omega)
        have HY := Lib.hid (show JobsR L from ⟨h9, fun j hj => HA.out j (by omega)⟩)
        clear hB
        go_wp2
        go_ret
        exact resB_yes HY.out HB.out
      · have hd3 : decide ((L.length : Int) ≤ 96) = false := decide_eq_false (by omega)
        have HNo := Lib.hid (show ¬ JobsR L from fun h => h9 h.1)
        clear hB
        go_wp2
        go_ret
        exact resB_no HNo.out HB.out

def isAt (l s id : Int) (d : D_Job) : Bool := ofL l s d && d.2.1 == id
/-- the place of the job, or -1 -/
def AtC (L : List D_Job) (l s id : Int) (w : World) (e : Ending) (w' : World) : Prop := ∃ n : Int, e = .returned (.int .i64 n) ∧ ((∃ (i : Nat) (d : D_Job), L[i]? = some d ∧ n = i ∧ isAt l s id d = true ∧ L.find? (isAt l s id) = some d) ∨ (n = -1 ∧ L.find? (isAt l s id) = none)) ∧ Below w.heap.size w w'
theorem atC_elim {L : List D_Job} {l s id : Int} {w : World} {e : Ending} {w' : World} (h : AtC L l s id w e w') : ∃ n : Int, e = .returned (.int .i64 n) ∧ ((∃ (i : Nat) (d : D_Job), L[i]? = some d ∧ n = i ∧ isAt l s id d = true ∧ L.find? (isAt l s id) = some d) ∨ (n = -1 ∧ L.find? (isAt l s id) = none)) ∧ Below w.heap.size w w' := h
theorem find_hit {L : List D_Job} {p : D_Job → Bool} {k : Nat} {d : D_Job} (hn : (L.take k).find? p = none) (hx : L[k]? = some d) (hp : p d = true) : L.find? p = some d := by
  obtain ⟨hk, e⟩ := List.getElem?_eq_some_iff.1 hx
  rw [← List.take_append_drop k L, List.find?_append, hn, List.drop_eq_getElem_cons hk, e]
  simp [hp]
theorem find_miss {L : List D_Job} {p : D_Job → Bool} {k : Nat} {d : D_Job} (hn : (L.take k).find? p = none) (hx : L[k]? = some d) (hp : p d = false) : (L.take (k + 1)).find? p = none := by
  rw [take_at hx, List.find?_append, hn]
  simp [hp]

set_option maxRecDepth 100000 in
set_option maxHeartbeats 6400000 in
theorem at_spec {L : List D_Job} {a : Option Addr} {cap : Nat} {l s id : Int} {W : World} (h : RdSl R_Job W W.heap.size L a cap) :
    Calls Try.prog 40 #[.slice a L.length cap, .agg #[.int .i64 l, .int .i64 s], .int .i64 id] W (AtC L l s id W) := by
  have hn : L.length ≤ 9223372036854775807 := by have h1 := h.1; have h2 := h.2.1; unfold maxLen at h2; omega
  have H := Lib.hid h
  clear h
  have HB0 := Lib.hid (show Below W.heap.size W (W.alloc (.cells #[.int .i64 l, .int .i64 s] 29)) from (Below.refl _ _).alloc (Nat.le_refl _) _)
  have HP0 := Lib.hid (Blk.new W 29 #[.int .i64 l, .int .i64 s])
  go_enter Try.func40, Try.ntmps40
  go_wp2
  go_loopw [7] (fun i wr => ∃ k : Nat, k ≤ L.length ∧ i = .int .i64 k ∧ Hid ((L.take k).find? (isAt l s id) = none) ∧ Below W.heap.size W wr ∧ Hid (Blk wr W.heap.size 29 #[.int .i64 l, .int .i64 s])) (fun i _ => L.length - (intOf i).toNat)
  case atStart => exact ⟨0, Nat.zero_le _, rfl, Lib.hid rfl, HB0.out, HP0⟩
  case round =>
    obtain ⟨k, hk, rfl, HA, hB, HP⟩ := hrel
    have HB := Lib.hid hB
    have hsz := hB.size
    by_cases hlt : k < L.length
    · skip
      obtain ⟨⟨⟨x0, x1⟩, x2, x3, x4, x5, x6, x7, L0⟩, hx⟩ := el_some hlt
      have HX := Lib.hid hx
      obtain ⟨g, o, us, rfl, hg, hu, hr⟩ := (H.out.below R_Job_ok hB).at_ hx
      obtain ⟨a0, c0, rfl, k_L0⟩ := rd_Job hr
      have e0 : wr.cell? ⟨g, o + k * 9, none⟩ = some (.int .i64 x0) := by simpa [sizeq_JobS, Nat.add_assoc] using hu 0 _ rfl
      have e1 : wr.cell? ⟨g, o + k * 9 + 1, none⟩ = some (.int .i64 x1) := by simpa [sizeq_JobS, Nat.add_assoc] using hu 1 _ rfl
      have e2 : wr.cell? ⟨g, o + k * 9 + 2, none⟩ = some (.int .i64 x2) := by simpa [sizeq_JobS, Nat.add_assoc] using hu 2 _ rfl
      have hgl : g < wr.heap.size := Nat.lt_of_lt_of_le hg hsz
      have hi0 : (0 : Int) ≤ (k : Int) := Int.natCast_nonneg _
      have hi1 : (k : Int) < (L.length : Int) := by omega
      have hq0 := HP.out.at_ 0 rfl
      have hq1 := HP.out.at_ 1 rfl
      have hpl := HP.out.lt
      clear hB hx hu hr
      cases c1 : (x0 == l) with
      | false =>
        have HC := Lib.hid (find_miss (p := isAt l s id) HA.out HX.out (by simp [isAt, ofL, c1]))
        go_wp2_with fail
        refine wp_region_held_drew (S := (fun V => Below (wr).heap.size (wr) V)) (by kernel_rfl) ((Below.refl _ _).drew) (fun hHeld => ?_)
        refine tk 0 hHeld ?_
        refine tk 1 hHeld ?_
        refine tk 2 hHeld ?_
        refine tk 3 hHeld ?_
        refine tk 4 hHeld ?_ (hy := fun w hSw => by (try dsimp only at hSw); have k0 := (hSw.cell (p := ⟨g, o + k * 9, none⟩) hgl).trans e0; have k1 := (hSw.cell (p := ⟨g, o + k * 9 + 1, none⟩) hgl).trans e1; clear hSw; go_simp; try with_reducible rfl)
        refine tk 5 hHeld ?_ (hy := fun w hSw => by (try dsimp only at hSw); have k0 := (hSw.cell (p := ⟨W.heap.size, 0, none⟩) hpl).trans hq0; have k1 := (hSw.cell (p := ⟨W.heap.size, 1, none⟩) hpl).trans hq1; clear hSw; go_simp; try with_reducible rfl)
        refine tk 6 hHeld ?_
        refine tk 7 hHeld ?_
        refine tn 8 hHeld ?_
        refine tn 9 hHeld ?_
        refine tn 10 hHeld ?_
        refine tn 11 hHeld ?_
        refine tn 12 hHeld ?_
        refine tn 13 hHeld ?_
        refine tn 14 hHeld ?_
        refine tk 15 hHeld ?_
        refine rd0 ?_
        have HF := Lib.hid hHeld
        clear hHeld
        have HB3 := Lib.hid (HB.out.trans (HF.out.mono hsz))
        have HP3 := Lib.hid (HP.out.call HF.out)
        clear HF
        go_wp2
        go_roundw
        case rel => exact ⟨k + 1, by omega, by go_num, HC, HB3.out, HP3⟩
        case measure => simp [intOf]; omega
      | true =>
        cases c2 : (x1 == s) with
        | false =>
          have HC := Lib.hid (find_miss (p := isAt l s id) HA.out HX.out (by simp [isAt, ofL, c1, c2]))
          go_wp2_with fail
          refine wp_region_held_drew (S := (fun V => Below (wr).heap.size (wr) V)) (by kernel_rfl) ((Below.refl _ _).drew) (fun hHeld => ?_)
          refine tk 0 hHeld ?_
          refine tk 1 hHeld ?_
          refine tk 2 hHeld ?_
          refine tk 3 hHeld ?_
          refine tk 4 hHeld ?_ (hy := fun w hSw => by (try dsimp only at hSw); have k0 := (hSw.cell (p := ⟨g, o + k * 9, none⟩) hgl).trans e0; have k1 := (hSw.cell (p := ⟨g, o + k * 9 + 1, none⟩) hgl).trans e1; clear hSw; go_simp; try with_reducible rfl)
          refine tk 5 hHeld ?_ (hy := fun w hSw => by (try dsimp only at hSw); have k0 := (hSw.cell (p := ⟨W.heap.size, 0, none⟩) hpl).trans hq0; have k1 := (hSw.cell (p := ⟨W.heap.size, 1, none⟩) hpl).trans hq1; clear hSw; go_simp; try with_reducible rfl)
          refine tk 6 hHeld ?_
          refine tk 7 hHeld ?_
          refine tn 8 hHeld ?_
          refine tn 9 hHeld ?_
          refine tn 10 hHeld ?_
          refine tn 11 hHeld ?_
          refine tn 12 hHeld ?_
          refine tn 13 hHeld ?_
          refine tn 14 hHeld ?_
          refine tk 15 hHeld ?_
          refine rd0 ?_
          have HF := Lib.hid hHeld
          clear hHeld
          have HB3 := Lib.hid (HB.out.trans (HF.out.mono hsz))
          have HP3 := Lib.hid (HP.out.call HF.out)
          clear HF
          go_wp2
          go_roundw
          case rel => exact ⟨k + 1, by omega, by go_num, HC, HB3.out, HP3⟩
          case measure => simp [intOf]; omega
        | true =>
          cases c3 : (x2 == id) with
          | false =>
            have HC := Lib.hid (find_miss (p := isAt l s id) HA.out HX.out (by simp [isAt, ofL, c1, c2, c3]))
            go_wp2_with fail
            refine wp_region_held_drew (S := (fun V => Below (wr).heap.size (wr) V)) (by kernel_rfl) ((Below.refl _ _).drew) (fun hHeld => ?_)
            refine tk 0 hHeld ?_
            refine tk 1 hHeld ?_
            refine tk 2 hHeld ?_
            refine tk 3 hHeld ?_
            refine tk 4 hHeld ?_ (hy := fun w hSw => by (try dsimp only at hSw); have k0 := (hSw.cell (p := ⟨g, o + k * 9, none⟩) hgl).trans e0; have k1 := (hSw.cell (p := ⟨g, o + k * 9 + 1, none⟩) hgl).trans e1; clear hSw; go_simp; try with_reducible rfl)
            refine tk 5 hHeld ?_ (hy := fun w hSw => by (try dsimp only at hSw); have k0 := (hSw.cell (p := ⟨W.heap.size, 0, none⟩) hpl).trans hq0; have k1 := (hSw.cell (p := ⟨W.heap.size, 1, none⟩) hpl).trans hq1; clear hSw; go_simp; try with_reducible rfl)
            refine tk 6 hHeld ?_
            refine tk 7 hHeld ?_
            refine tk 8 hHeld ?_
            refine tk 9 hHeld ?_
            refine tk 10 hHeld ?_
            refine tk 11 hHeld ?_
            refine tk 12 hHeld ?_ (hy := fun w hSw => by (try dsimp only at hSw); have k0 := (hSw.cell (p := ⟨g, o + k * 9 + 2, none⟩) hgl).trans e2; clear hSw; go_simp; try with_reducible rfl)
            refine tk 13 hHeld ?_
            refine tk 14 hHeld ?_
            refine tk 15 hHeld ?_
            refine rd0 ?_
            have HF := Lib.hid hHeld
            clear hHeld
            have HB3 := Lib.hid (HB.out.trans (HF.out.mono hsz))
            have HP3 := Lib.hid (HP.out.call HF.out)
            clear HF
            go_wp2
            go_roundw
            case rel => exact ⟨k + 1, by omega, by go_num, HC, HB3.out, HP3⟩
            case measure => simp [intOf]; omega
          | true =>
            have HC := Lib.hid (find_hit (p := isAt l s id) HA.out HX.out (by simp [isAt, ofL, c1, c2, c3]))
            have HI := Lib.hid (show isAt l s id ((x0, x1), x2, x3, x4, x5, x6, x7, L0) = true from by simp [isAt, ofL, c1, c2, c3])
            go_wp2_with fail
            refine wp_region_held_drew (S := (fun V => Below (wr).heap.size (wr) V)) (by kernel_rfl) ((Below.refl _ _).drew) (fun hHeld => ?_)
            refine tk 0 hHeld ?_
            refine tk 1 hHeld ?_
            refine tk 2 hHeld ?_
            refine tk 3 hHeld ?_
            refine tk 4 hHeld ?_ (hy := fun w hSw => by (try dsimp only at hSw); have k0 := (hSw.cell (p := ⟨g, o + k * 9, none⟩) hgl).trans e0; have k1 := (hSw.cell (p := ⟨g, o + k * 9 + 1, none⟩) hgl).trans e1; clear hSw; go_simp; try with_reducible rfl)
            refine tk 5 hHeld ?_ (hy := fun w hSw => by (try dsimp only at hSw); have k0 := (hSw.cell (p := ⟨W.heap.size, 0, none⟩) hpl).trans hq0; have k1 := (hSw.cell (p := ⟨W.heap.size, 1, none⟩) hpl).trans hq1; clear hSw; go_simp; try with_reducible rfl)
            refine tk 6 hHeld ?_
            refine tk 7 hHeld ?_
            refine tk 8 hHeld ?_
            refine tk 9 hHeld ?_
            refine tk 10 hHeld ?_
            refine tk 11 hHeld ?_
            refine tk 12 hHeld ?_ (hy := fun w hSw => by (try dsimp only at hSw); have k0 := (hSw.cell (p := ⟨g, o + k * 9 + 2, none⟩) hgl).trans e2; clear hSw; go_simp; try with_reducible rfl)
            refine tk 13 hHeld ?_
            refine tk 14 hHeld ?_
            refine tk 15 hHeld ?_
            refine rd0 ?_
            have HF := Lib.hid hHeld
            clear hHeld
            have HB3 := Lib.hid (HB.out.trans (HF.out.mono hsz))
            have HP3 := Lib.hid (HP.out.call HF.out)
            clear HF
            go_wp2
            go_ret
            exact ⟨_, rfl, Or.inl ⟨k, _, HX.out, rfl, HI.out, HC.out⟩, HB3.out⟩
    · have HC := Lib.hid (show L.find? (isAt l s id) = none from by have := HA.out; rw [List.take_of_length_le (by omega)] at this; exact this)
      clear hB
      go_wp2
      go_ret
      exact ⟨-1, rfl, Or.inr ⟨rfl, HC.out⟩, HB.out⟩
end Go.Proofs.Ytfmgjkmlnaeagaa.RepC
