/- NodesRight in the model and in the program: contracts. -/
import Derived.Test.YtfciojkibklkfaaNdV
import Derived.Test.YtfciojkibklkfaaSqImpl2
namespace Go.Proofs.Ytfciojkibklkfaa.RepC
open Go.RowKit RowC ValC SpanC KeptC
set_option linter.unusedVariables false
set_option linter.unusedSimpArgs false

theorem state_spec (n : Int) (w : World) : Calls Try.prog 66 #[.int .i64 n] w fun e w' => e = .returned (.bool (isB n 1 3)) ∧ w = w' := by
  go_enter Try.func66, Try.ntmps66
  go_wp2_with (go_at_call 81; refine (is_spec _ _ _ _).mono ?_; rintro e w' ⟨rfl, rfl⟩)
  go_ret
  exact ⟨rfl, rfl⟩
theorem state_impl (n : Int) (w : World) : Calls Try.prog 64 #[.int .i64 n] w fun e w' => e = .returned (.bool (isB n 1 3)) ∧ w = w' := by
  go_enter Try.func64, Try.ntmps64
  go_wp2_with (go_at_call 67; refine (is_impl _ _ _ _).mono ?_; rintro e w' ⟨rfl, rfl⟩)
  go_ret
  exact ⟨rfl, rfl⟩
theorem nd_len {α : Type} {E : Rp α} {L : List α} {W : World} {B : Nat} {a : Option Addr} {cap : Nat} (h : RdSl E W B L a cap) : L.length ≤ 9223372036854775807 := by
  have h1 := h.1; have h2 := h.2.1; unfold maxLen at h2; omega
set_option maxRecDepth 100000 in
set_option maxHeartbeats 3200000 in
theorem nodes_spec {L : List D_Node} {a : Option Addr} {cap : Nat} {W : World} (h : RdSl R_Node W W.heap.size L a cap) :
    Calls Try.prog 20 #[.slice a L.length cap] W (IsB (nodesB L) W) := by
  refine Calls.mono ?_ fun e w' h => resB_is nodesB_iff h
  have hn := nd_len h
  have H := Lib.hid h
  clear h
  by_cases h1 : 1 ≤ L.length
  rotate_left
  · have HN := Lib.hid (show ¬ NodesR L from fun h => h1 h.1.1)
    have hd : decide ((L.length : Int) < 1) = true := decide_eq_true (by omega)
    go_enter Try.func20, Try.ntmps20
    go_wp2
    go_ret
    exact resB_no HN.out (Below.refl _ _)
  have hd : decide ((L.length : Int) < 1) = false := decide_eq_false (by omega)
  by_cases h6 : L.length ≤ 6
  rotate_left
  · have HN := Lib.hid (show ¬ NodesR L from fun h => h6 h.1.2)
    have hd2 : decide ((6 : Int) < (L.length : Int)) = true := decide_eq_true (by omega)
    go_enter Try.func20, Try.ntmps20
    go_wp2
    go_ret
    exact resB_no HN.out (Below.refl _ _)
  have hd2 : decide ((6 : Int) < (L.length : Int)) = false := decide_eq_false (by omega)
  go_enter Try.func20, Try.ntmps20
  go_wp2
  go_loopw [3] (fun i wr => ∃ k : Nat, k ≤ L.length ∧ i = .int .i64 k ∧ Hid (okTo L k) ∧ Below W.heap.size W wr) (fun i _ => L.length - (intOf i).toNat)
  case atStart => exact ⟨0, Nat.zero_le _, rfl, Lib.hid okTo_zero, Below.refl _ _⟩
  case round =>
    obtain ⟨k, hk, rfl, HO, hB⟩ := hrel
    have HB := Lib.hid hB
    have hsz := hB.size
    by_cases hlt : k < L.length
    · skip
      obtain ⟨x, hx⟩ := el_some hlt
      have HX := Lib.hid hx
      have hcr := mv_rd R_Node_ok H.out hB
      obtain ⟨g, o, us, rfl, hg, hu, hr⟩ := hcr.at_ hx
      obtain ⟨st, M⟩ := x
      obtain ⟨ba, bc, rfl, hM⟩ := rd_Node hr
      have e0 : wr.cell? ⟨g, o + k * 2, none⟩ = some (.int .i64 st) := by simpa [size_NodeS] using hu 0 _ rfl
      have e1 : wr.cell? ⟨g, o + k * 2 + 1, none⟩ = some (.slice ba M.length bc) := by simpa [size_NodeS, Nat.add_assoc] using hu 1 _ rfl
      have hi0 : (0 : Int) ≤ (k : Int) := Int.natCast_nonneg _
      have hi1 : (k : Int) < (L.length : Int) := by omega
      have HG := Lib.hid hg
      have HM := Lib.hid hM
      clear hcr hu hr hM hg hB hx
      cases hq : isB st 1 3 with
      | false =>
        have HN := Lib.hid (show ¬ NodesR L from fun h => by have := (nodesR_at h HX.out).1; rw [hq] at this; cases this)
        have hs := fun W => state_spec st W
        rw [hq] at hs
        clear hq
        go_wp2_with (go_at_call 66; refine (hs _).mono ?_; rintro e w' ⟨rfl, rfl⟩)
        go_ret
        exact resB_no HN.out HB.out
      | true =>
      have HQ := Lib.hid hq
      have hs := fun W => state_spec st W
      rw [hq] at hs
      clear hq
      by_cases h4 : M.length ≤ 4
      rotate_left
      · have HN := Lib.hid (show ¬ NodesR L from fun h => h4 (nodesR_at h HX.out).2.1)
        have hd : decide ((4 : Int) < (M.length : Int)) = true := decide_eq_true (by omega)
        go_wp2_with (go_at_call 66; refine (hs _).mono ?_; rintro e w' ⟨rfl, rfl⟩)
        go_ret
        exact resB_no HN.out HB.out
      have hd : decide ((4 : Int) < (M.length : Int)) = false := decide_eq_false (by omega)
      go_wp2_with (first | (go_at_call 66; refine (hs _).mono ?_; rintro e w' ⟨rfl, rfl⟩) | fail)
      refine (spansA_spec ba M.length bc (gt M) _ (by omega) (pa_of (mv_rd R_Span_ok HM.out (w' := _) (Below.refl _ _)) (Nat.le_refl _))).mono ?_
      intro e w5 h
      obtain ⟨z, rfl, hz, hb⟩ := resB_elim h
      have HZ := Lib.hid hz
      have HB5 := Lib.hid (HB.out.trans (hb.mono hsz))
      clear h hz hb hs hd
      cases z with
      | false =>
        have HN := Lib.hid (show ¬ NodesR L from fun h => by have := HZ.out.2 (nodesR_at h HX.out).2.2; cases this)
        go_wp2
        go_ret
        exact resB_no HN.out HB5.out
      | true =>
        have HO2 := Lib.hid (okTo_step HO.out HX.out ⟨HQ.out, h4, HZ.out.1 rfl⟩)
        go_wp2
        go_roundw
        case rel => exact ⟨k + 1, by omega, by go_num, HO2, HB5.out⟩
        case measure => simp [intOf]; omega
    · have hdl : decide ((k : Int) < (L.length : Int)) = false := decide_eq_false (by omega)
      obtain rfl : k = L.length := by omega
      have HY := Lib.hid (nodesR_all h1 h6 HO.out)
      clear hB
      go_wp2
      go_ret
      exact resB_yes HY.out HB.out
set_option maxRecDepth 100000 in
set_option maxHeartbeats 3200000 in
theorem nodes_impl {L : List D_Node} {a : Option Addr} {cap : Nat} {W : World} (h : RdSl R_Node W W.heap.size L a cap) :
    Calls Try.prog 19 #[.slice a L.length cap] W (IsB (nodesB L) W) := by
  refine Calls.mono ?_ fun e w' h => resB_is nodesB_iff h
  have hn := nd_len h
  have H := Lib.hid h
  clear h
  cases h16 : isB (L.length : Int) 1 6 with
  | false =>
    have HN := Lib.hid (show ¬ NodesR L from fun h => by have h1 := h.1.1; have h2 := h.1.2; rw [(isB_iff _ _ _).2 ⟨by omega, by omega⟩] at h16; cases h16)
    have hs := fun W => is_impl (L.length : Int) 1 6 W
    rw [h16] at hs
    clear h16
    go_enter Try.func19, Try.ntmps19
    go_wp2_with (go_at_call 67; refine (hs _).mono ?_; rintro e w' ⟨rfl, rfl⟩)
    go_ret
    exact resB_no HN.out (Below.refl _ _)
  | true =>
  have h1 : 1 ≤ L.length := by have := ((isB_iff _ _ _).1 h16).1; omega
  have h6 : L.length ≤ 6 := by have := ((isB_iff _ _ _).1 h16).2; omega
  have hs := fun W => is_impl (L.length : Int) 1 6 W
  rw [h16] at hs
  clear h16
  go_enter Try.func19, Try.ntmps19
  go_wp2_with (go_at_call 67; refine (hs _).mono ?_; rintro e w' ⟨rfl, rfl⟩)
  clear hs
  go_loopw [11] (fun i wr => ∃ k : Nat, k ≤ L.length ∧ i = .int .i64 k ∧ Hid (okTo L k) ∧ Below W.heap.size W wr) (fun i _ => L.length - (intOf i).toNat)
  case atStart => exact ⟨0, Nat.zero_le _, rfl, Lib.hid okTo_zero, Below.refl _ _⟩
  case round =>
    obtain ⟨k, hk, rfl, HO, hB⟩ := hrel
    have HB := Lib.hid hB
    have hsz := hB.size
    by_cases hlt : k < L.length
    · skip
      obtain ⟨x, hx⟩ := el_some hlt
      have HX := Lib.hid hx
      have hcr := mv_rd R_Node_ok H.out hB
      obtain ⟨g, o, us, rfl, hg, hu, hr⟩ := hcr.at_ hx
      obtain ⟨st, M⟩ := x
      obtain ⟨ba, bc, rfl, hM⟩ := rd_Node hr
      have e0 : wr.cell? ⟨g, o + k * 2, none⟩ = some (.int .i64 st) := by simpa [size_NodeS] using hu 0 _ rfl
      have e1 : wr.cell? ⟨g, o + k * 2 + 1, none⟩ = some (.slice ba M.length bc) := by simpa [size_NodeS, Nat.add_assoc] using hu 1 _ rfl
      have hi0 : (0 : Int) ≤ (k : Int) := Int.natCast_nonneg _
      have hi1 : (k : Int) < (L.length : Int) := by omega
      have HG := Lib.hid hg
      have HM := Lib.hid hM
      clear hcr hu hr hM hg hB hx
      cases hq : isB st 1 3 with
      | false =>
        have HN := Lib.hid (show ¬ NodesR L from fun h => by have := (nodesR_at h HX.out).1; rw [hq] at this; cases this)
        have hs := fun W => state_impl st W
        rw [hq] at hs
        clear hq
        go_wp2_with (go_at_call 64; refine (hs _).mono ?_; rintro e w' ⟨rfl, rfl⟩)
        go_ret
        exact resB_no HN.out (HB.out.trans (Below.mono (B := wr.heap.size) (by repeat (first | exact Below.refl _ _ | refine Below.drew ?_ | refine Below.setCell ?_ (by first | omega | (simp; done) | (simp; omega)) _ | refine Below.alloc ?_ (by first | omega | (simp; done) | (simp; omega)) _)) hsz))
      | true =>
      have HQ := Lib.hid hq
      have hs := fun W => state_impl st W
      rw [hq] at hs
      clear hq
      by_cases h4 : M.length ≤ 4
      rotate_left
      · have HN := Lib.hid (show ¬ NodesR L from fun h => h4 (nodesR_at h HX.out).2.1)
        have hd : decide ((4 : Int) < (M.length : Int)) = true := decide_eq_true (by omega)
        go_wp2_with (go_at_call 64; refine (hs _).mono ?_; rintro e w' ⟨rfl, rfl⟩)
        go_ret
        exact resB_no HN.out (HB.out.trans (Below.mono (B := wr.heap.size) (by repeat (first | exact Below.refl _ _ | refine Below.drew ?_ | refine Below.setCell ?_ (by first | omega | (simp; done) | (simp; omega)) _ | refine Below.alloc ?_ (by first | omega | (simp; done) | (simp; omega)) _)) hsz))
      have hd : decide ((4 : Int) < (M.length : Int)) = false := decide_eq_false (by omega)
      go_wp2_with (first | (go_at_call 64; refine (hs _).mono ?_; rintro e w' ⟨rfl, rfl⟩) | fail)
      refine (spans_impl ba M.length bc (gt M) _ (by omega) (pa_of (mv_rd R_Span_ok HM.out (w' := _) (by repeat (first | exact Below.refl _ _ | refine Below.drew ?_ | refine Below.setCell ?_ (by first | omega | (simp; done) | (simp; omega)) _ | refine Below.alloc ?_ (by first | omega | (simp; done) | (simp; omega)) _))) (Nat.le_refl _))).mono ?_
      intro e w5 h
      obtain ⟨z, rfl, hz, hb⟩ := resB_elim h
      have HZ := Lib.hid hz
      have HB5 := Lib.hid ((HB.out.trans (Below.mono (B := wr.heap.size) (by repeat (first | exact Below.refl _ _ | refine Below.drew ?_ | refine Below.setCell ?_ (by first | omega | (simp; done) | (simp; omega)) _ | refine Below.alloc ?_ (by first | omega | (simp; done) | (simp; omega)) _)) hsz)).trans (hb.mono (by simp; omega)))
      clear h hz hb hs hd
      cases z with
      | false =>
        have HN := Lib.hid (show ¬ NodesR L from fun h => by have := HZ.out.2 (nodesR_at h HX.out).2.2; cases this)
        go_wp2
        go_ret
        exact resB_no HN.out HB5.out
      | true =>
        have HO2 := Lib.hid (okTo_step HO.out HX.out ⟨HQ.out, h4, HZ.out.1 rfl⟩)
        go_wp2
        go_roundw
        case rel => exact ⟨k + 1, by omega, by go_num, HO2, HB5.out⟩
        case measure => simp [intOf]; omega
    · have hdl : decide ((k : Int) < (L.length : Int)) = false := decide_eq_false (by omega)
      obtain rfl : k = L.length := by omega
      have HY := Lib.hid (nodesR_all h1 h6 HO.out)
      clear hB
      go_wp2
      go_ret
      exact resB_yes HY.out HB.out
end Go.Proofs.Ytfciojkibklkfaa.RepC
