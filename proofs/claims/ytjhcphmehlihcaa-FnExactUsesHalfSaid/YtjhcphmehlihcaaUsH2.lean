/- UsesHalf of the model: a contract. -/
import Derived.Test.YtjhcphmehlihcaaUsH1
namespace Go.Proofs.Ytjhcphmehlihcaa.RepC
open Go.RowKit RowC ValC SpanC KeptC NameC SortC Go.ChangeShapes Go.Maps
set_option linter.unusedVariables false
set_option linter.unusedSimpArgs false

theorem halfL_yes {L : List D_Use} {k : Nat} {x0 x1 x3 : Int} {x2 : ByteArray} (hx : L[k]? = some ((x0, x1), x2, x3)) (h : half x3 = some (x3 / 2)) : halfL (L.take k) ++ [((x0, x1), x2, x3 / 2)] = halfL (L.take (k + 1)) := by
  rw [halfL_take hx]
  unfold halfU
  simp only [h, Option.map_some]
theorem halfL_no {L : List D_Use} {k : Nat} {x0 x1 x3 : Int} {x2 : ByteArray} (hx : L[k]? = some ((x0, x1), x2, x3)) (h : half x3 = none) : halfL (L.take k) = halfL (L.take (k + 1)) := by
  rw [halfL_take hx]
  unfold halfU
  simp only [h, Option.map_none, List.append_nil]
set_option maxRecDepth 100000 in
set_option maxHeartbeats 3200000 in
theorem half_spec {L : List D_Use} {a : Option Addr} {cap : Nat} {W : World} (h : RdSl R_Use W W.heap.size L a cap) :
    Calls Try.prog 17 #[.slice a L.length cap] W (NewS R_Use (halfV L) W) := by
  have hn := us_len h
  have H := Lib.hid h
  clear h
  obtain ⟨w0, hw0⟩ : ∃ w, w = W.alloc (.cells #[] 68) := ⟨_, rfl⟩
  have hb0 : Below W.heap.size W w0 := by rw [hw0]; exact (Below.refl _ _).alloc (Nat.le_refl _) _
  have HV0 := Lib.hid (show URow w0 W.heap.size (.slice (some ⟨W.heap.size, 0, none⟩) 0 0) [] from by rw [hw0]; exact URow.made W)
  have HB0 := Lib.hid hb0
  have HA0 := Lib.hid ((H.out.below R_Use_ok hb0).more R_Use_ok hb0.size)
  clear hb0
  go_enter Try.func17, Try.ntmps17
  go_wp2_with fail
  rw [← hw0]
  clear hw0
  refine (uses_spec HA0.out).mono ?_
  intro e w1 h
  obtain ⟨rfl, hb⟩ := isB_elim h
  have HB1 := Lib.hid (HB0.out.trans (hb.mono HB0.out.size))
  have HV1 := Lib.hid (HV0.out.call hb)
  clear h hb HV0 HA0
  cases hq : usesB L with
  | false =>
    have HE := Lib.hid (halfV_no (L := L) hq)
    clear hq
    go_wp2
    go_ret
    rw [HE.out]
    exact HV1.out.news (Nat.le_refl _) HB1.out
  | true =>
    have HE := Lib.hid (halfV_yes (L := L) hq)
    have HR := Lib.hid (usesB_iff.1 hq)
    have h48 := HR.out.1
    clear hq
    go_wp2
    go_loopw [4, 3] (fun i q wr => ∃ k : Nat, k ≤ L.length ∧ i = .int .i64 k ∧ Hid (URow wr W.heap.size q (halfL (L.take k))) ∧ Below W.heap.size W wr) (fun i _ _ => L.length - (intOf i).toNat)
    case atStart => exact ⟨0, Nat.zero_le _, rfl, Lib.hid HV1.out, HB1.out⟩
    case round =>
      obtain ⟨v, rfl⟩ : ∃ x, x = u3 := ⟨_, rfl⟩
      obtain ⟨k, hk, rfl, HV, hB⟩ := hrel
      obtain ⟨wo, rfl⟩ : ∃ x, x = wr := ⟨_, rfl⟩
      have HB := Lib.hid hB
      have hsz := hB.size
      by_cases hlt : k < L.length
      · skip
        obtain ⟨⟨⟨x0, x1⟩, x2, x3⟩, hx⟩ := el_some hlt
        have HX := Lib.hid hx
        obtain ⟨g, o, us, rfl, hg, hu, hr⟩ := (H.out.below R_Use_ok hB).at_ hx
        obtain ⟨rfl, b_x2⟩ := rd_Use hr
        have e0 : wo.cell? ⟨g, o + k * 4, none⟩ = some (.int .i64 x0) := by simpa [size_UseS, Nat.add_assoc] using hu 0 _ rfl
        have e1 : wo.cell? ⟨g, o + k * 4 + 1, none⟩ = some (.int .i64 x1) := by simpa [size_UseS, Nat.add_assoc] using hu 1 _ rfl
        have e2 : wo.cell? ⟨g, o + k * 4 + 2, none⟩ = some (.string x2) := by simpa [size_UseS, Nat.add_assoc] using hu 2 _ rfl
        have e3 : wo.cell? ⟨g, o + k * 4 + 3, none⟩ = some (.int .i64 x3) := by simpa [size_UseS, Nat.add_assoc] using hu 3 _ rfl
        have hi0 : (0 : Int) ≤ (k : Int) := Int.natCast_nonneg _
        have hi1 : (k : Int) < (L.length : Int) := by omega
        have hkk := usesR_keyed HR.out _ (List.mem_of_getElem? hx)
        have hx1 : 1 ≤ x3 := hkk.2.2.1
        have hx2 : x3 ≤ 100000 := hkk.2.2.2.1
        have hq2 := quo2 hx1 hx2
        have HSL := Lib.hid b_x2
        have HLEN := Lib.hid (show (halfL (L.take k)).length ≤ 1000000 from by have := halfL_len (L.take k); rw [List.length_take] at this; omega)
        have hbA : Below wo.heap.size wo (wo.alloc (.cells #[.int .i64 x0, .int .i64 x1, .string x2, .int .i64 (x3 / 2)] 68)) := (Below.refl _ _).alloc (Nat.le_refl _) _
        have HB4 := Lib.hid (HB.out.trans (hbA.mono hsz))
        have HV4 := Lib.hid (HV.out.call hbA)
        clear hu hr hg hB hx b_x2 hkk hbA
        cases hz : decide ((0 : Int) < x3 / 2) with
        | false =>
          have HZ := Lib.hid (show half x3 = none from by unfold half; rw [if_pos (by have := of_decide_eq_false hz; omega)])
          have HT := Lib.hid (halfL_no HX.out HZ.out)
          go_wp2
          go_roundw
          case rel => exact ⟨k + 1, by omega, by go_num, Lib.hid (by rw [← HT.out]; exact HV4.out), HB4.out⟩
          case measure => simp [intOf]; omega
        | true =>
          have HZ := Lib.hid (show half x3 = some (x3 / 2) from by unfold half; rw [if_neg (by have := of_decide_eq_true hz; omega)])
          have HT := Lib.hid (halfL_yes HX.out HZ.out)
          obtain ⟨w4, hw4⟩ : ∃ w, w = (wo.alloc (.cells #[.int .i64 x0, .int .i64 x1, .string x2, .int .i64 (x3 / 2)] 68)) := ⟨_, rfl⟩
          obtain ⟨w5, hw5⟩ : ∃ w, w = w4.alloc (.cells #[.int .i64 x0, .int .i64 x1, .string x2, .int .i64 (x3 / 2)] 68) := ⟨_, rfl⟩
          rw [← hw4] at HB4 HV4
          have hbl : Below w4.heap.size w4 w5 := by rw [hw5]; exact (Below.refl _ _).alloc (Nat.le_refl _) _
          have hz4 : w4.heap.size = wo.heap.size + 1 := by rw [hw4]; simp
          have HP5 := Lib.hid (show Blk w5 (wo.heap.size + 1) 68 #[.int .i64 x0, .int .i64 x1, .string x2, .int .i64 (x3 / 2)] from by rw [← hz4, hw5]; exact Blk.new _ _ _)
          have HV5 := Lib.hid (HV4.out.call hbl)
          have HB5 := Lib.hid (HB4.out.trans (hbl.mono HB4.out.size))
          obtain ⟨v', w6, hrun, hrow, hgr⟩ := HV5.out.app1 (c := 1) HP5.out HSL.out HLEN.out
          have HV6 := Lib.hid (show URow w6 W.heap.size v' (halfL (L.take (k + 1))) from by rw [← HT.out]; exact hrow)
          have HB6 := Lib.hid (HB5.out.trans (grow_low hgr (fun j hj => (HV5.out.blk hj).1) HB5.out.size))
          have HQ := Lib.hid hrun
          clear hrun hrow hgr hbl HP5 HV5 HV4 HB4 hz4
          subst hw5
          subst hw4
          go_wp2_with (at_builtin; refine wpList_app rfl (.tmp 28) (.tmp 30) 23 rfl rfl rfl HQ.out ?_)
          go_roundw
          case rel => exact ⟨k + 1, by omega, by go_num, Lib.hid HV6.out, HB6.out⟩
          case measure => simp [intOf]; omega
      · have hdl : decide ((k : Int) < (L.length : Int)) = false := decide_eq_false (by omega)
        obtain rfl : k = L.length := by omega
        clear hB
        go_wp2
        go_ret
        rw [HE.out]
        have h9 := HV.out
        rw [List.take_length] at h9
        exact h9.news (Nat.le_refl _) HB.out
end Go.Proofs.Ytjhcphmehlihcaa.RepC
