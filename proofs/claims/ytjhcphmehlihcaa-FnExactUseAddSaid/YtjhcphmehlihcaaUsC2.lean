/- UseAdd of the model: a contract. -/
import Derived.Test.YtjhcphmehlihcaaTk
import Derived.Test.YtjhcphmehlihcaaUsC1
namespace Go.Proofs.Ytjhcphmehlihcaa.RepC
open Go.RowKit RowC ValC SpanC KeptC NameC SortC Go.ChangeShapes Go.Maps
set_option linter.unusedVariables false
set_option linter.unusedSimpArgs false
set_option maxRecDepth 100000

set_option maxHeartbeats 6400000 in
theorem add_spec {L : List D_Use} {a : Option Addr} {cap : Nat} {l0 l1 n : Int} {s : ByteArray} {W : World} (h : RdSl R_Use W W.heap.size L a cap) (hsl : s.size ≤ maxLen) :
    Calls Try.prog 13 #[.slice a L.length cap, .agg #[.int .i64 l0, .int .i64 l1], .string s, .int .i64 n] W (NewS R_Use (addV L ((l0, l1), s) n) W) := by
  have hn := us_len h
  have hsl2 : s.size ≤ 9223372036854775807 := by unfold maxLen at hsl; omega
  have HSL := Lib.hid hsl
  have H := Lib.hid h
  clear h hsl
  obtain ⟨w0, hw0⟩ : ∃ w, w = W.alloc (.cells #[.int .i64 l0, .int .i64 l1] 25) := ⟨_, rfl⟩
  have hz0 : w0.heap.size = W.heap.size + 1 := by rw [hw0]; simp
  have HB0 := Lib.hid (show Below W.heap.size W w0 from by rw [hw0]; exact (Below.refl _ _).alloc (Nat.le_refl _) _)
  have HP0 := Lib.hid (show Blk w0 W.heap.size 25 #[.int .i64 l0, .int .i64 l1] from by rw [hw0]; exact Blk.new _ _ _)
  obtain ⟨w1, hw1⟩ : ∃ w, w = w0.alloc (.cells #[] 68) := ⟨_, rfl⟩
  have hz1 : w1.heap.size = W.heap.size + 2 := by rw [hw1]; simp [hz0]
  have hb1 : Below w0.heap.size w0 w1 := by rw [hw1]; exact (Below.refl _ _).alloc (Nat.le_refl _) _
  have HV1 := Lib.hid (show URow w1 w0.heap.size (.slice (some ⟨W.heap.size + 1, 0, none⟩) 0 0) [] from by rw [← hz0, hw1]; exact URow.made w0)
  have HB1 := Lib.hid (HB0.out.trans (hb1.mono HB0.out.size))
  by_cases hbig : 400 < L.length ∨ 8000 < s.size
  · have HE := Lib.hid (addV_big (L := L) (a := ((l0, l1), s)) (n := n) hbig)
    have hzl : W.heap.size ≤ w0.heap.size := by omega
    cases h4 : decide ((400 : Int) < (L.length : Int)) with
    | true =>
      clear hbig hz1 hz0 hb1
      go_enter Try.func13, Try.ntmps13
      subst hw1
      subst hw0
      go_wp2
      go_ret
      rw [HE.out]
      exact HV1.out.news hzl HB1.out
    | false =>
      have h8 : decide ((8000 : Int) < (s.size : Int)) = true := decide_eq_true (by have := of_decide_eq_false h4; omega)
      clear hbig hz1 hz0 hb1
      go_enter Try.func13, Try.ntmps13
      subst hw1
      subst hw0
      go_wp2
      go_ret
      rw [HE.out]
      exact HV1.out.news hzl HB1.out
  have h4 : L.length ≤ 400 := by omega
  have h8 : s.size ≤ 8000 := by omega
  have d4 : decide ((400 : Int) < (L.length : Int)) = false := decide_eq_false (by omega)
  have d8 : decide ((8000 : Int) < (s.size : Int)) = false := decide_eq_false (by omega)
  clear hbig
  obtain ⟨w2, hw2⟩ : ∃ w, w = w1.alloc (.cells #[.int .i64 l0, .int .i64 l1, .string s, .int .i64 n] 68) := ⟨_, rfl⟩
  have hb2 : Below w1.heap.size w1 w2 := by rw [hw2]; exact (Below.refl _ _).alloc (Nat.le_refl _) _
  have HP2 := Lib.hid ((HP0.out.call hb1).call hb2)
  have HX2 := Lib.hid (show Blk w2 (W.heap.size + 2) 68 #[.int .i64 l0, .int .i64 l1, .string s, .int .i64 n] from by rw [← hz1, hw2]; exact Blk.new _ _ _)
  have HV2 := Lib.hid (HV1.out.call hb2)
  have HB2 := Lib.hid (HB1.out.trans (hb2.mono HB1.out.size))
  have HL2 := Lib.hid (hb1.trans (hb2.mono (by omega)))
  have p0 := HP0.out.at_ 0 rfl
  have p1 := HP0.out.at_ 1 rfl
  have HZ0 := Lib.hid hz0
  clear hb1 hb2 hz1 hz0 HV1
  go_enter Try.func13, Try.ntmps13
  subst hw2
  subst hw1
  subst hw0
  go_wp2
  obtain ⟨w0, hw0⟩ : ∃ w, w = W.alloc (.cells #[.int .i64 l0, .int .i64 l1] 25) := ⟨_, rfl⟩
  rw [← hw0] at HP2 HX2 HV2 HB2 HL2 HP0 HB0 HB1 p0 p1 HZ0 ⊢
  clear hw0
  obtain ⟨w2, hw2⟩ : ∃ w, w = (w0.alloc (.cells #[] 68)).alloc (.cells #[.int .i64 l0, .int .i64 l1, .string s, .int .i64 n] 68) := ⟨_, rfl⟩
  rw [← hw2] at HP2 HX2 HV2 HB2 HL2 ⊢
  clear hw2 p0 p1 HB1 HP0
  go_loopw [13, 11, 12] (fun i q p wr => ∃ (k m : Nat) (f : Bool), k ≤ L.length ∧ i = .int .i64 k ∧ q = .int .i64 m ∧ p = .bool f ∧ m ≤ k ∧ Hid (m = cntA (l0, l1) ((L.take k).map ku) ∧ f = foundB L ((l0, l1), s) k) ∧ Below w2.heap.size w2 wr) (fun i _ _ _ => L.length - (intOf i).toNat)
  case atStart => exact ⟨0, 0, false, Nat.zero_le _, rfl, rfl, rfl, Nat.le_refl _, Lib.hid ⟨rfl, (foundB_zero _ _).symm⟩, Below.refl _ _⟩
  case round =>
    obtain ⟨k, m, f, hk, rfl, rfl, rfl, hm4, HI, hB⟩ := hrel
    have HB := Lib.hid hB
    have hsz := hB.size
    by_cases hlt : k < L.length
    · skip
      obtain ⟨⟨⟨x0, x1⟩, x2, x3⟩, hx⟩ := el_some hlt
      have HX := Lib.hid hx
      obtain ⟨g, o, us, rfl, hg, hu, hr⟩ := (H.out.below R_Use_ok (HB2.out.trans (hB.mono HB2.out.size))).at_ hx
      obtain ⟨rfl, b_x2⟩ := rd_Use hr
      have e0 : wr.cell? ⟨g, o + k * 4, none⟩ = some (.int .i64 x0) := by simpa [size_UseS, Nat.add_assoc] using hu 0 _ rfl
      have e1 : wr.cell? ⟨g, o + k * 4 + 1, none⟩ = some (.int .i64 x1) := by simpa [size_UseS, Nat.add_assoc] using hu 1 _ rfl
      have e2 : wr.cell? ⟨g, o + k * 4 + 2, none⟩ = some (.string x2) := by simpa [size_UseS, Nat.add_assoc] using hu 2 _ rfl
      have e3 : wr.cell? ⟨g, o + k * 4 + 3, none⟩ = some (.int .i64 x3) := by simpa [size_UseS, Nat.add_assoc] using hu 3 _ rfl
      have HPR := Lib.hid (HP2.out.call hB)
      have q0 : wr.cell? ⟨W.heap.size, 0, none⟩ = some (.int .i64 l0) := HPR.out.at_ 0 rfl
      have q1 : wr.cell? ⟨W.heap.size, 1, none⟩ = some (.int .i64 l1) := HPR.out.at_ 1 rfl
      have hi0 : (0 : Int) ≤ (k : Int) := Int.natCast_nonneg _
      have hi1 : (k : Int) < (L.length : Int) := by omega
      have hm0 : (0 : Int) ≤ (m : Int) := Int.natCast_nonneg _
      have hm1 : (m : Int) ≤ 400 := by omega
      obtain ⟨b, hb⟩ : ∃ b, decide (((x0, x1) : Int × Int) = (l0, l1)) = b := ⟨_, rfl⟩
      have hq := eql_lab x0 x1 l0 l1 b hb
      obtain ⟨c, hc⟩ : ∃ c, (x2.toList == s.toList) = c := ⟨_, rfl⟩
      have HS := Lib.hid (foundB_step (a := ((l0, l1), s)) hx (b := (b && c)) (by rw [ku_iff, hb, hc]; cases b <;> cases c <;> simp))
      have HCN := Lib.hid (show cntA (l0, l1) ((L.take (k + 1)).map ku) = cntA (l0, l1) ((L.take k).map ku) + (if b = true then 1 else 0) from by
        cases b with
        | true => exact cnt_yes hx hb
        | false => exact cnt_no hx hb)
      clear hu hr hg hB hx hb
      cases b with
      | false =>
        cases f with
        | false =>
          have HN := Lib.hid (show m = cntA (l0, l1) ((L.take (k + 1)).map ku) ∧ false = foundB L ((l0, l1), s) (k + 1) from ⟨by rw [HCN.out]; exact HI.out.1, by rw [HS.out, ← HI.out.2]; rfl⟩)
          go_wp2_with fail
          go_quiet (fail)
          all_goals
            go_wp2_with fail
            go_quiet (fail)
            all_goals
              go_wp2
              go_roundw
              case rel => exact ⟨k + 1, m, _, by omega, by go_num, rfl, rfl, by omega, HN, by first | exact HB.out | exact HB.out.drew | exact HB.out.drew.drew | exact bdrewN HB.out _ | exact (bdrewN HB.out _).drew⟩
              case measure => simp [intOf]; omega
        | true =>
          have HN := Lib.hid (show m = cntA (l0, l1) ((L.take (k + 1)).map ku) ∧ true = foundB L ((l0, l1), s) (k + 1) from ⟨by rw [HCN.out]; exact HI.out.1, by rw [HS.out, ← HI.out.2]; rfl⟩)
          go_wp2_with fail
          go_quiet (fail)
          all_goals
            go_wp2_with fail
            go_quiet (fail)
            all_goals
              go_wp2
              go_roundw
              case rel => exact ⟨k + 1, m, _, by omega, by go_num, rfl, rfl, by omega, HN, by first | exact HB.out | exact HB.out.drew | exact HB.out.drew.drew | exact bdrewN HB.out _ | exact (bdrewN HB.out _).drew⟩
              case measure => simp [intOf]; omega
      | true =>
        cases f with
        | true =>
          have HN := Lib.hid (show m + 1 = cntA (l0, l1) ((L.take (k + 1)).map ku) ∧ true = foundB L ((l0, l1), s) (k + 1) from ⟨by rw [HCN.out, ← HI.out.1]; rfl, by rw [HS.out, ← HI.out.2]; rfl⟩)
          go_wp2_with fail
          go_quiet (fail)
          all_goals
            go_wp2_with fail
            go_quiet (fail)
            all_goals
              go_wp2
              go_roundw
              case rel => exact ⟨k + 1, m + 1, _, by omega, by go_num, by go_num, rfl, by omega, HN, by first | exact HB.out | exact HB.out.drew | exact HB.out.drew.drew | exact bdrewN HB.out _ | exact (bdrewN HB.out _).drew⟩
              case measure => simp [intOf]; omega
        | false =>
          cases c with
          | false =>
            have HN := Lib.hid (show m + 1 = cntA (l0, l1) ((L.take (k + 1)).map ku) ∧ false = foundB L ((l0, l1), s) (k + 1) from ⟨by rw [HCN.out, ← HI.out.1]; rfl, by rw [HS.out, ← HI.out.2]; rfl⟩)
            go_wp2_with fail
            go_quiet (fail)
            all_goals
              go_wp2_with fail
              go_quiet (fail)
              all_goals
                go_wp2
                go_roundw
                case rel => exact ⟨k + 1, m + 1, _, by omega, by go_num, by go_num, rfl, by omega, HN, by first | exact HB.out | exact HB.out.drew | exact HB.out.drew.drew | exact bdrewN HB.out _ | exact (bdrewN HB.out _).drew⟩
                case measure => simp [intOf]; omega
          | true =>
            have HN := Lib.hid (show m + 1 = cntA (l0, l1) ((L.take (k + 1)).map ku) ∧ true = foundB L ((l0, l1), s) (k + 1) from ⟨by rw [HCN.out, ← HI.out.1]; rfl, by rw [HS.out, ← HI.out.2]; rfl⟩)
            go_wp2_with fail
            go_quiet (fail)
            all_goals
              go_wp2_with fail
              go_quiet (fail)
              all_goals
                go_wp2
                go_roundw
                case rel => exact ⟨k + 1, m + 1, _, by omega, by go_num, by go_num, rfl, by omega, HN, by first | exact HB.out | exact HB.out.drew | exact HB.out.drew.drew | exact bdrewN HB.out _ | exact (bdrewN HB.out _).drew⟩
                case measure => simp [intOf]; omega
    · have hdl : decide ((k : Int) < (L.length : Int)) = false := decide_eq_false (by omega)
      obtain rfl : k = L.length := by omega
      have HI2 := Lib.hid (show m = cntA (l0, l1) (L.map ku) ∧ f = (FU L ((l0, l1), s)).isSome from ⟨by have := HI.out.1; rwa [List.take_length] at this, HI.out.2.trans (foundB_all _ _)⟩)
      have hm0 : (0 : Int) ≤ (m : Int) := Int.natCast_nonneg _
      clear hB
      have HB3 := Lib.hid (HB2.out.trans (HB.out.mono HB2.out.size))
      have HP3 := Lib.hid (HP2.out.call HB.out)
      have HX3 := Lib.hid (HX2.out.call HB.out)
      have HV3 := Lib.hid (HV2.out.call HB.out)
      have HL3 := Lib.hid (HL2.out.trans (HB.out.mono HL2.out.size))
      have HA := Lib.hid ((H.out.below R_Use_ok HB3.out).more R_Use_ok HB3.out.size)
      clear HB HP2 HX2 HV2 HI HB2 HL2
      go_wp2_with fail
      refine (uses_spec HA.out).mono ?_
      intro e w4 h
      obtain ⟨rfl, hb⟩ := isB_elim h
      have HB4 := Lib.hid (HB3.out.trans (hb.mono HB3.out.size))
      have HP4 := Lib.hid (HP3.out.call hb)
      have HX4 := Lib.hid (HX3.out.call hb)
      have HV4 := Lib.hid (HV3.out.call hb)
      have HL4 := Lib.hid (HL3.out.trans (hb.mono HL3.out.size))
      clear hb
      try clear p0 p1
      have p0 := HP4.out.at_ 0 rfl
      have p1 := HP4.out.at_ 1 rfl
      clear h HA
      cases hq : usesB L with
      | false =>
        have HE := Lib.hid (addV_no (L := L) (a := ((l0, l1), s)) (n := n) h4 h8 (fun h => by have := h.1; rw [hq] at this; cases this))
        obtain ⟨v', w', hr, hrow, hb⟩ := HV4.out.more ((H.out.below R_Use_ok HB4.out).more R_Use_ok HB4.out.size) (by simp only [List.length_nil]; omega)
        have HQR := Lib.hid hr
        have HQV := Lib.hid (show URow w' w0.heap.size v' L from hrow)
        have HQB := Lib.hid (HB4.out.trans (hb.mono HB0.out.size))
        clear hr hrow hb
        go_wp2_with (at_builtin; refine wpList_app rfl (.tmp 95) (.tmp 96) 23 rfl rfl rfl HQR.out ?_)
        go_ret
        rw [HE.out]
        exact HQV.out.news HB0.out.size HQB.out
      | true =>
      have HR := Lib.hid (usesB_iff.1 hq)
      have HQ1 := Lib.hid hq
      clear hq
      go_wp2_with fail
      refine (LabC.rs_w l0 l1 _).mono ?_
      rintro e w5 ⟨rfl, hb⟩
      have HB5 := Lib.hid (HB4.out.trans (hb.mono HB4.out.size))
      have HP5 := Lib.hid (HP4.out.call hb)
      have HX5 := Lib.hid (HX4.out.call hb)
      have HV5 := Lib.hid (HV4.out.call hb)
      have HL5 := Lib.hid (HL4.out.trans (hb.mono HL4.out.size))
      clear hb
      try clear p0 p1
      have p0 := HP5.out.at_ 0 rfl
      have p1 := HP5.out.at_ 1 rfl
      cases h1 : LabC.rB l0 l1 with
      | false =>
        have HE := Lib.hid (addV_no (L := L) (a := ((l0, l1), s)) (n := n) h4 h8 (fun h => by have := h.2.1; rw [show LabC.rB ((l0, l1), s).1.1 ((l0, l1), s).1.2 = LabC.rB l0 l1 from rfl, h1] at this; cases this))
        obtain ⟨v', w', hr, hrow, hb⟩ := HV5.out.more ((H.out.below R_Use_ok HB5.out).more R_Use_ok HB5.out.size) (by simp only [List.length_nil]; omega)
        have HQR := Lib.hid hr
        have HQV := Lib.hid (show URow w' w0.heap.size v' L from hrow)
        have HQB := Lib.hid (HB5.out.trans (hb.mono HB0.out.size))
        clear hr hrow hb
        go_wp2_with (at_builtin; refine wpList_app rfl (.tmp 95) (.tmp 96) 23 rfl rfl rfl HQR.out ?_)
        go_ret
        rw [HE.out]
        exact HQV.out.news HB0.out.size HQB.out
      | true =>
      have HQ2 := Lib.hid h1
      clear h1
      go_wp2_with fail
      refine (ns_w s HSL.out _).mono ?_
      rintro e w6 ⟨rfl, hb⟩
      have HB6 := Lib.hid (HB5.out.trans (hb.mono HB5.out.size))
      have HP6 := Lib.hid (HP5.out.call hb)
      have HX6 := Lib.hid (HX5.out.call hb)
      have HV6 := Lib.hid (HV5.out.call hb)
      have HL6 := Lib.hid (HL5.out.trans (hb.mono HL5.out.size))
      clear hb
      try clear p0 p1
      have p0 := HP6.out.at_ 0 rfl
      have p1 := HP6.out.at_ 1 rfl
      cases h2 : nameB s with
      | false =>
        have HE := Lib.hid (addV_no (L := L) (a := ((l0, l1), s)) (n := n) h4 h8 (fun h => by have := h.2.2.1; rw [show nameB ((l0, l1), s).2 = nameB s from rfl, h2] at this; cases this))
        obtain ⟨v', w', hr, hrow, hb⟩ := HV6.out.more ((H.out.below R_Use_ok HB6.out).more R_Use_ok HB6.out.size) (by simp only [List.length_nil]; omega)
        have HQR := Lib.hid hr
        have HQV := Lib.hid (show URow w' w0.heap.size v' L from hrow)
        have HQB := Lib.hid (HB6.out.trans (hb.mono HB0.out.size))
        clear hr hrow hb
        go_wp2_with (at_builtin; refine wpList_app rfl (.tmp 95) (.tmp 96) 23 rfl rfl rfl HQR.out ?_)
        go_ret
        rw [HE.out]
        exact HQV.out.news HB0.out.size HQB.out
      | true =>
      have HQ3 := Lib.hid h2
      clear h2
      go_wp2_with fail
      refine (is_w n 1 100000 _).mono ?_
      rintro e w7 ⟨rfl, hb⟩
      have HB7 := Lib.hid (HB6.out.trans (hb.mono HB6.out.size))
      have HP7 := Lib.hid (HP6.out.call hb)
      have HX7 := Lib.hid (HX6.out.call hb)
      have HV7 := Lib.hid (HV6.out.call hb)
      have HL7 := Lib.hid (HL6.out.trans (hb.mono HL6.out.size))
      clear hb
      try clear p0 p1
      have p0 := HP7.out.at_ 0 rfl
      have p1 := HP7.out.at_ 1 rfl
      cases h3 : isB n 1 100000 with
      | false =>
        have HE := Lib.hid (addV_no (L := L) (a := ((l0, l1), s)) (n := n) h4 h8 (fun h => by have := h.2.2.2.1; rw [h3] at this; cases this))
        obtain ⟨v', w', hr, hrow, hb⟩ := HV7.out.more ((H.out.below R_Use_ok HB7.out).more R_Use_ok HB7.out.size) (by simp only [List.length_nil]; omega)
        have HQR := Lib.hid hr
        have HQV := Lib.hid (show URow w' w0.heap.size v' L from hrow)
        have HQB := Lib.hid (HB7.out.trans (hb.mono HB0.out.size))
        clear hr hrow hb
        go_wp2_with (at_builtin; refine wpList_app rfl (.tmp 95) (.tmp 96) 23 rfl rfl rfl HQR.out ?_)
        go_ret
        rw [HE.out]
        exact HQV.out.news HB0.out.size HQB.out
      | true =>
      have HQ4 := Lib.hid h3
      have hnn := (isB_iff _ _ _).1 h3
      have hn1 : 1 ≤ n := hnn.1
      have hn2 : n ≤ 100000 := hnn.2
      clear h3 hnn HB3 HB4 HB5 HB6 HP3 HP4 HP5 HP6 HX3 HX4 HX5 HX6 HV3 HV4 HV5 HV6 HL3 HL4 HL5 HL6
      have h48 := HR.out.1
      have HTK := Lib.hid (show takesB (FU L) (L.map ku) ((l0, l1), s) = (f || (decide (L.length < 48) && decide (m < 6))) from by unfold takesB; rw [← HI2.out.2, List.length_map, HI2.out.1])
      cases f with
      | true =>
        have HE := Lib.hid (addV_yes (L := L) (a := ((l0, l1), s)) (n := n) h4 h8 ⟨HQ1.out, HQ2.out, HQ3.out, HQ4.out, by rw [HTK.out]; rfl⟩)
        have HS7 := Lib.hid (show RowS w7 w0.heap.size (W.heap.size + 1 + 1) l0 l1 s (.slice (some ⟨W.heap.size + 1, 0, none⟩) 0 0) [] n w7 from ⟨HV7.out, (by intro h; simp [Value.ownBlock] at h), HX7.out, Below.refl _ _, by have := HZ0.out; omega⟩)
        clear HV7 HX7 p0 p1
        go_wp2
        go_loopw [15, 9, 14] (fun i v p wr => ∃ (k : Nat) (put : Bool) (out : List D_Use) (u : Int), k ≤ L.length ∧ i = .int .i64 k ∧ p = .bool put ∧ Hid (insTo L ((l0, l1), s) n k put out) ∧ Hid (put = false → u = n) ∧ RowS w7 w0.heap.size (W.heap.size + 1 + 1) l0 l1 s v out u wr) (fun i _ _ _ => L.length - (intOf i).toNat)
        case atStart => exact ⟨0, false, [], n, Nat.zero_le _, rfl, rfl, Lib.hid (insTo_zero _ _ _), Lib.hid fun _ => rfl, HS7.out⟩
        case round =>
          obtain ⟨v, rfl⟩ : ∃ x, x = u9 := ⟨_, rfl⟩
          obtain ⟨k, put, out, u, hk, rfl, rfl, HI, HU, hS⟩ := hrel
          have HS := Lib.hid hS
          have hB := hS.2.2.2.1
          have hzw : W.heap.size ≤ w0.heap.size := by have := HZ0.out; omega
          have HBW := Lib.hid (HB7.out.trans (hB.mono hzw))
          have hsz := hB.size
          by_cases hlt : k < L.length
          · skip
            obtain ⟨⟨⟨x0, x1⟩, x2, x3⟩, hx⟩ := el_some hlt
            have HX := Lib.hid hx
            obtain ⟨g, o, us, rfl, hg, hu, hr⟩ := (H.out.below R_Use_ok HBW.out).at_ hx
            obtain ⟨rfl, b_x2⟩ := rd_Use hr
            have e0 : wr.cell? ⟨g, o + k * 4, none⟩ = some (.int .i64 x0) := by simpa [size_UseS, Nat.add_assoc] using hu 0 _ rfl
            have e1 : wr.cell? ⟨g, o + k * 4 + 1, none⟩ = some (.int .i64 x1) := by simpa [size_UseS, Nat.add_assoc] using hu 1 _ rfl
            have e2 : wr.cell? ⟨g, o + k * 4 + 2, none⟩ = some (.string x2) := by simpa [size_UseS, Nat.add_assoc] using hu 2 _ rfl
            have e3 : wr.cell? ⟨g, o + k * 4 + 3, none⟩ = some (.int .i64 x3) := by simpa [size_UseS, Nat.add_assoc] using hu 3 _ rfl
            obtain ⟨g', o', us', he7, hg7, hu7, hr7⟩ := (H.out.below R_Use_ok HB7.out).at_ hx
            cases he7
            obtain ⟨rfl, _⟩ := rd_Use hr7
            have E0 := Lib.hid (show w7.cell? ⟨g, o + k * 4, none⟩ = some (.int .i64 x0) from by simpa [size_UseS, Nat.add_assoc] using hu7 0 _ rfl)
            have E1 := Lib.hid (show w7.cell? ⟨g, o + k * 4 + 1, none⟩ = some (.int .i64 x1) from by simpa [size_UseS, Nat.add_assoc] using hu7 1 _ rfl)
            have E2 := Lib.hid (show w7.cell? ⟨g, o + k * 4 + 2, none⟩ = some (.string x2) from by simpa [size_UseS, Nat.add_assoc] using hu7 2 _ rfl)
            have E3 := Lib.hid (show w7.cell? ⟨g, o + k * 4 + 3, none⟩ = some (.int .i64 x3) from by simpa [size_UseS, Nat.add_assoc] using hu7 3 _ rfl)
            have HG0 := Lib.hid (show g < w0.heap.size from Nat.lt_of_lt_of_le hg hzw)
            clear hg7 hu7 hr7
            have HPR := Lib.hid (show Blk wr W.heap.size 25 #[.int .i64 l0, .int .i64 l1] from (hB.block W.heap.size (by have := HZ0.out; omega)).trans HP7.out)
            have q0 : wr.cell? ⟨W.heap.size, 0, none⟩ = some (.int .i64 l0) := HPR.out.at_ 0 rfl
            have q1 : wr.cell? ⟨W.heap.size, 1, none⟩ = some (.int .i64 l1) := HPR.out.at_ 1 rfl
            have r0 : wr.cell? ⟨W.heap.size + 1 + 1, 0, none⟩ = some (.int .i64 l0) := hS.2.2.1.at_ 0 rfl
            have r1 : wr.cell? ⟨W.heap.size + 1 + 1, 1, none⟩ = some (.int .i64 l1) := hS.2.2.1.at_ 1 rfl
            have r2 : wr.cell? ⟨W.heap.size + 1 + 1, 2, none⟩ = some (.string s) := hS.2.2.1.at_ 2 rfl
            have r3 : wr.cell? ⟨W.heap.size + 1 + 1, 3, none⟩ = some (.int .i64 u) := hS.2.2.1.at_ 3 rfl
            have rf := hS.2.2.1.soft 3
            have hi0 : (0 : Int) ≤ (k : Int) := Int.natCast_nonneg _
            have hi1 : (k : Int) < (L.length : Int) := by omega
            have hkk := usesR_keyed HR.out _ (List.mem_of_getElem? hx)
            have hx1 : 1 ≤ x3 := hkk.2.2.1
            have hx2 : x3 ≤ 100000 := hkk.2.2.2.1
            have HOK := Lib.hid (HR.out.2 k _ hx).1.1
            have hwr : IntKind.i64.wrap (x3 + n) = x3 + n := Go.IntWalk.i64_in _ (by omega)
            have HLN := Lib.hid (show out.length ≤ 1000000 from by have := HI.out.1; omega)
            have HSX := Lib.hid b_x2
            obtain ⟨b, hb⟩ : ∃ b, decide (((x0, x1) : Int × Int) = (l0, l1)) = b := ⟨_, rfl⟩
            have hq := eql_lab x0 x1 l0 l1 b hb
            obtain ⟨c, hc⟩ : ∃ c, (x2.toList == s.toList) = c := ⟨_, rfl⟩
            have HKU := Lib.hid (show ku ((x0, x1), x2, x3) = ((l0, l1), s) ↔ (b && c) = true from by rw [ku_iff, hb, hc]; cases b <;> cases c <;> simp)
            clear hu hr hg hB hx hb hkk b_x2 hS
            cases put with
            | true =>
              have HIN := Lib.hid (insTo_more HX.out HI.out)
              go_wp2_with fail
              go_quiet (fail)
              all_goals
                go_wp2_with fail
                go_quiet (fail)
                all_goals
                  go_wp2_with (at_builtin; refine wpList_row rfl (.tmp 151) (.tmp 156) rfl rfl rfl rfl (HS.out.call (by bel)) (Blk.new _ _ _) HSX.out HLN.out ?_; intro v' w' hS' hl'; have HS9 := Lib.hid hS'; clear hS' hl')
                  go_roundw
                  case rel => exact ⟨k + 1, true, _, u, by omega, by go_num, rfl, HIN, Lib.hid (fun h => by cases h), HS9.out⟩
                  case measure => simp [intOf]; omega
            | false =>
              have hu0 := HU.out rfl
              subst hu0
              cases hbc : (b && c) with
              | true =>
                obtain ⟨rfl, rfl⟩ : b = true ∧ c = true := by simpa using hbc
                have HIN := Lib.hid (show insTo L ((l0, l1), s) u (k + 1) true (out ++ [((l0, l1), s, addM x3 u)]) from insTo_hit HX.out HI.out (HKU.out.2 rfl))
                have hmn : ∀ V, Calls Try.prog 47 #[.int .i64 (x3 + u), .int .i64 100000] V fun e w' => e = .returned (.int .i64 (addM x3 u)) ∧ V = w' := fun V => (LabC.min_any _ _ V).mono fun e w' ⟨h1, h2⟩ => ⟨by rw [h1]; congr 2; unfold LabC.minV addM; split <;> split <;> omega, h2⟩
                clear hbc
                go_wp2_with fail
                go_quiet (fail)
                all_goals
                  go_wp2_with fail
                  refine (hmn _).mono ?_
                  rintro e w8 ⟨rfl, hw⟩
                  have HS8 := Lib.hid (show RowS w7 w0.heap.size (W.heap.size + 1 + 1) l0 l1 s v out u w8 from by rw [← hw]; exact HS.out.call (by bel))
                  clear hw r0 r1 r2 r3 rf
                  have r0 : w8.cell? ⟨W.heap.size + 1 + 1, 0, none⟩ = some (.int .i64 l0) := HS8.out.2.2.1.at_ 0 rfl
                  have r1 : w8.cell? ⟨W.heap.size + 1 + 1, 1, none⟩ = some (.int .i64 l1) := HS8.out.2.2.1.at_ 1 rfl
                  have r2 : w8.cell? ⟨W.heap.size + 1 + 1, 2, none⟩ = some (.string s) := HS8.out.2.2.1.at_ 2 rfl
                  have r3 : w8.cell? ⟨W.heap.size + 1 + 1, 3, none⟩ = some (.int .i64 u) := HS8.out.2.2.1.at_ 3 rfl
                  have rf := HS8.out.2.2.1.soft 3
                  have HBK := Lib.hid (show Blk ((w8.setCell ⟨W.heap.size + 1 + 1, 3, none⟩ (.int .i64 (addM x3 u))).alloc (.cells #[.int .i64 l0, .int .i64 l1, .string s, .int .i64 (addM x3 u)] 68)) w8.heap.size 68 #[.int .i64 l0, .int .i64 l1, .string s, .int .i64 (addM x3 u)] from by
                    have h9 := Blk.new (w8.setCell ⟨W.heap.size + 1 + 1, 3, none⟩ (.int .i64 (addM x3 u))) 68 #[.int .i64 l0, .int .i64 l1, .string s, .int .i64 (addM x3 u)]
                    have e : (w8.setCell ⟨W.heap.size + 1 + 1, 3, none⟩ (.int .i64 (addM x3 u))).heap.size = w8.heap.size := by simp
                    rw [e] at h9
                    exact h9)
                  have HS10 := Lib.hid (show RowS w7 w0.heap.size (W.heap.size + 1 + 1) l0 l1 s v out (addM x3 u) ((w8.setCell ⟨W.heap.size + 1 + 1, 3, none⟩ (.int .i64 (addM x3 u))).alloc (.cells #[.int .i64 l0, .int .i64 l1, .string s, .int .i64 (addM x3 u)] 68)) from RowS.call (RowS.set HS8.out (addM x3 u)) ((Below.refl _ _).alloc (Nat.le_refl _) _))
                  go_wp2_with (at_builtin; refine wpList_row rfl (.tmp 133) (.tmp 135) rfl rfl rfl rfl HS10.out HBK.out HSL.out HLN.out ?_; intro v' w' hS' hl'; have HS9 := Lib.hid hS'; clear hS' hl')
                  go_roundw
                  case rel => exact ⟨k + 1, true, _, addM x3 u, by omega, by go_num, rfl, HIN, Lib.hid (fun h => by cases h), HS9.out⟩
                  case measure => simp [intOf]; omega
              | false =>
                have HNE := Lib.hid (show ku ((x0, x1), x2, x3) ≠ ((l0, l1), s) from fun e => by have := HKU.out.1 e; rw [hbc] at this; cases this)
                cases b with
                | false =>
                  clear hbc
                  go_wp2_with fail
                  go_quiet (fail)
                  all_goals
                    go_wp2_with fail
                    generalize hw8 : wr.drewN _ = w8
                    have HS8 := Lib.hid (show RowS w7 w0.heap.size (W.heap.size + 1 + 1) l0 l1 s v out u w8 from by rw [← hw8]; exact HS.out.call (bdrewN (Below.refl _ _) _))
                    clear hw8 r0 r1 r2 r3 rf e0 e1 e2 e3 q0 q1
                    have r0 : w8.cell? ⟨W.heap.size + 1 + 1, 0, none⟩ = some (.int .i64 l0) := HS8.out.2.2.1.at_ 0 rfl
                    have r1 : w8.cell? ⟨W.heap.size + 1 + 1, 1, none⟩ = some (.int .i64 l1) := HS8.out.2.2.1.at_ 1 rfl
                    have r2 : w8.cell? ⟨W.heap.size + 1 + 1, 2, none⟩ = some (.string s) := HS8.out.2.2.1.at_ 2 rfl
                    have r3 : w8.cell? ⟨W.heap.size + 1 + 1, 3, none⟩ = some (.int .i64 u) := HS8.out.2.2.1.at_ 3 rfl
                    have e0 := (HS8.out.2.2.2.1.cell (p := ⟨g, o + k * 4, none⟩) HG0.out).trans E0.out
                    have e1 := (HS8.out.2.2.2.1.cell (p := ⟨g, o + k * 4 + 1, none⟩) HG0.out).trans E1.out
                    have e2 := (HS8.out.2.2.2.1.cell (p := ⟨g, o + k * 4 + 2, none⟩) HG0.out).trans E2.out
                    have e3 := (HS8.out.2.2.2.1.cell (p := ⟨g, o + k * 4 + 3, none⟩) HG0.out).trans E3.out
                    have hgx : W.heap.size + 1 + 1 < w8.heap.size := HS8.out.2.2.1.lt
                    have hgl : g < w8.heap.size := by have h1 := HS8.out.2.2.2.2; have h2 := HG0.out; omega
                    obtain ⟨z, hz⟩ : ∃ z, lessB ((l0, l1), s, u) ((x0, x1), x2, x3) = z := ⟨_, rfl⟩
                    have hZ : ∀ V : World, Calls Try.prog 48 #[.agg #[.int .i64 l0, .int .i64 l1, .string s, .int .i64 u], .agg #[.int .i64 x0, .int .i64 x1, .string x2, .int .i64 x3]] V fun e w' => e = .returned (.bool z) ∧ Below V.heap.size V w' := fun V => by rw [← hz]; exact less_w HQ2.out HOK.out V
                    have HLT := Lib.hid (show z = true ↔ ltA ((l0, l1), s) (ku ((x0, x1), x2, x3)) from by rw [← hz]; exact lessB_iff HQ2.out HOK.out)
                    clear hz
                    refine wp_region_held_drew (S := (fun V => Below (w8).heap.size (w8) V)) (by kernel_rfl) ((Below.refl _ _).drew) (fun hHeld => ?_)
                    refine tk 0 hHeld ?_
                    refine tk 1 hHeld ?_
                    refine tk 2 hHeld ?_
                    refine tk 3 hHeld ?_ (hy := fun w hSw => by (try dsimp only at hSw); have k0 := (hSw.cell (p := ⟨W.heap.size + 1 + 1, 0, none⟩) hgx).trans r0; have k1 := (hSw.cell (p := ⟨W.heap.size + 1 + 1, 1, none⟩) hgx).trans r1; have k2 := (hSw.cell (p := ⟨W.heap.size + 1 + 1, 2, none⟩) hgx).trans r2; have k3 := (hSw.cell (p := ⟨W.heap.size + 1 + 1, 3, none⟩) hgx).trans r3; clear hSw; go_simp; try with_reducible rfl)
                    refine tk 4 hHeld ?_
                    refine tk 5 hHeld ?_
                    refine tk 6 hHeld ?_
                    refine tk 7 hHeld ?_ (hy := fun w hSw => by (try dsimp only at hSw); have k0 := (hSw.cell (p := ⟨g, o + k * 4, none⟩) hgl).trans e0; have k1 := (hSw.cell (p := ⟨g, o + k * 4 + 1, none⟩) hgl).trans e1; have k2 := (hSw.cell (p := ⟨g, o + k * 4 + 2, none⟩) hgl).trans e2; have k3 := (hSw.cell (p := ⟨g, o + k * 4 + 3, none⟩) hgl).trans e3; clear hSw; go_simp; try with_reducible rfl)
                    refine rd1 8 (fun K hK => ?_)
                    go_simp
                    go_at_call 48
                    refine (hZ _).mono ?_
                    rintro e w9 ⟨rfl, hb⟩
                    refine hK.out _ _ (hHeld.trans (hb.mono hHeld.size)) (fun hHeld => ?_)
                    clear hK K hb
                    refine tk 9 hHeld ?_
                    refine rd0 ?_
                    have HF := Lib.hid hHeld
                    clear hHeld
                    clear hZ
                    have HS9 := Lib.hid (HS8.out.call HF.out)
                    clear r0 r1 r2 r3 e0 e1 e2 e3 hgx hgl
                    have r0 := HS9.out.2.2.1.at_ 0 rfl
                    have r1 := HS9.out.2.2.1.at_ 1 rfl
                    have r2 := HS9.out.2.2.1.at_ 2 rfl
                    have r3 := HS9.out.2.2.1.at_ 3 rfl
                    have e0 := (HS9.out.2.2.2.1.cell (p := ⟨g, o + k * 4, none⟩) HG0.out).trans E0.out
                    have e1 := (HS9.out.2.2.2.1.cell (p := ⟨g, o + k * 4 + 1, none⟩) HG0.out).trans E1.out
                    have e2 := (HS9.out.2.2.2.1.cell (p := ⟨g, o + k * 4 + 2, none⟩) HG0.out).trans E2.out
                    have e3 := (HS9.out.2.2.2.1.cell (p := ⟨g, o + k * 4 + 3, none⟩) HG0.out).trans E3.out
                    cases z with
                    | true =>
                      have HIN := Lib.hid (show insTo L ((l0, l1), s) u (k + 1) true (out ++ [((l0, l1), s, u)] ++ [((x0, x1), x2, x3)]) from insTo_less HX.out HI.out HNE.out (HLT.out.1 rfl))
                      have HLN2 := Lib.hid (show (out ++ [((l0, l1), s, u)]).length ≤ 1000000 from by have := HI.out.1; simp; omega)
                      go_wp2_with (first
                        | (at_builtin; refine wpList_row rfl (.tmp 147) (.tmp 149) rfl rfl rfl rfl (HS9.out.call (by bel)) (Blk.new _ _ _) HSL.out HLN.out ?_; intro v5 w5' hS' hl'; have HSa := Lib.hid hS'; clear hS' hl'
                           have f0 := (HSa.out.2.2.2.1.cell (p := ⟨g, o + k * 4, none⟩) HG0.out).trans E0.out
                           have f1 := (HSa.out.2.2.2.1.cell (p := ⟨g, o + k * 4 + 1, none⟩) HG0.out).trans E1.out
                           have f2 := (HSa.out.2.2.2.1.cell (p := ⟨g, o + k * 4 + 2, none⟩) HG0.out).trans E2.out
                           have f3 := (HSa.out.2.2.2.1.cell (p := ⟨g, o + k * 4 + 3, none⟩) HG0.out).trans E3.out)
                        | (at_builtin; refine wpList_row rfl (.tmp 151) (.tmp 156) rfl rfl rfl rfl (HSa.out.call (by bel)) (Blk.new _ _ _) HSX.out HLN2.out ?_; intro v' w' hS' hl'; have HSb := Lib.hid hS'; clear hS' hl'))
                      go_roundw
                      case rel => exact ⟨k + 1, true, _, u, by omega, by go_num, rfl, HIN, Lib.hid (fun h => by cases h), HSb.out⟩
                      case measure => simp [intOf]; omega
                    | false =>
                      have HIN := Lib.hid (insTo_go HX.out HI.out HNE.out (fun h => by have := HLT.out.2 h; cases this))
                      go_wp2_with (at_builtin; refine wpList_row rfl (.tmp 151) (.tmp 156) rfl rfl rfl rfl (HS9.out.call (by bel)) (Blk.new _ _ _) HSX.out HLN.out ?_; intro v' w' hS' hl'; have HSb := Lib.hid hS'; clear hS' hl')
                      go_roundw
                      case rel => exact ⟨k + 1, false, _, u, by omega, by go_num, rfl, HIN, Lib.hid (fun _ => rfl), HSb.out⟩
                      case measure => simp [intOf]; omega
                | true =>
                  obtain rfl : c = false := by simpa using hbc
                  clear hbc
                  go_wp2_with fail
                  go_quiet (fail)
                  all_goals
                    go_wp2_with fail
                    generalize hw8 : wr.drewN _ = w8
                    have HS8 := Lib.hid (show RowS w7 w0.heap.size (W.heap.size + 1 + 1) l0 l1 s v out u w8 from by rw [← hw8]; exact HS.out.call (bdrewN (Below.refl _ _) _))
                    clear hw8 r0 r1 r2 r3 rf e0 e1 e2 e3 q0 q1
                    have r0 : w8.cell? ⟨W.heap.size + 1 + 1, 0, none⟩ = some (.int .i64 l0) := HS8.out.2.2.1.at_ 0 rfl
                    have r1 : w8.cell? ⟨W.heap.size + 1 + 1, 1, none⟩ = some (.int .i64 l1) := HS8.out.2.2.1.at_ 1 rfl
                    have r2 : w8.cell? ⟨W.heap.size + 1 + 1, 2, none⟩ = some (.string s) := HS8.out.2.2.1.at_ 2 rfl
                    have r3 : w8.cell? ⟨W.heap.size + 1 + 1, 3, none⟩ = some (.int .i64 u) := HS8.out.2.2.1.at_ 3 rfl
                    have e0 := (HS8.out.2.2.2.1.cell (p := ⟨g, o + k * 4, none⟩) HG0.out).trans E0.out
                    have e1 := (HS8.out.2.2.2.1.cell (p := ⟨g, o + k * 4 + 1, none⟩) HG0.out).trans E1.out
                    have e2 := (HS8.out.2.2.2.1.cell (p := ⟨g, o + k * 4 + 2, none⟩) HG0.out).trans E2.out
                    have e3 := (HS8.out.2.2.2.1.cell (p := ⟨g, o + k * 4 + 3, none⟩) HG0.out).trans E3.out
                    have hgx : W.heap.size + 1 + 1 < w8.heap.size := HS8.out.2.2.1.lt
                    have hgl : g < w8.heap.size := by have h1 := HS8.out.2.2.2.2; have h2 := HG0.out; omega
                    obtain ⟨z, hz⟩ : ∃ z, lessB ((l0, l1), s, u) ((x0, x1), x2, x3) = z := ⟨_, rfl⟩
                    have hZ : ∀ V : World, Calls Try.prog 48 #[.agg #[.int .i64 l0, .int .i64 l1, .string s, .int .i64 u], .agg #[.int .i64 x0, .int .i64 x1, .string x2, .int .i64 x3]] V fun e w' => e = .returned (.bool z) ∧ Below V.heap.size V w' := fun V => by rw [← hz]; exact less_w HQ2.out HOK.out V
                    have HLT := Lib.hid (show z = true ↔ ltA ((l0, l1), s) (ku ((x0, x1), x2, x3)) from by rw [← hz]; exact lessB_iff HQ2.out HOK.out)
                    clear hz
                    refine wp_region_held_drew (S := (fun V => Below (w8).heap.size (w8) V)) (by kernel_rfl) ((Below.refl _ _).drew) (fun hHeld => ?_)
                    refine tk 0 hHeld ?_
                    refine tk 1 hHeld ?_
                    refine tk 2 hHeld ?_
                    refine tk 3 hHeld ?_ (hy := fun w hSw => by (try dsimp only at hSw); have k0 := (hSw.cell (p := ⟨W.heap.size + 1 + 1, 0, none⟩) hgx).trans r0; have k1 := (hSw.cell (p := ⟨W.heap.size + 1 + 1, 1, none⟩) hgx).trans r1; have k2 := (hSw.cell (p := ⟨W.heap.size + 1 + 1, 2, none⟩) hgx).trans r2; have k3 := (hSw.cell (p := ⟨W.heap.size + 1 + 1, 3, none⟩) hgx).trans r3; clear hSw; go_simp; try with_reducible rfl)
                    refine tk 4 hHeld ?_
                    refine tk 5 hHeld ?_
                    refine tk 6 hHeld ?_
                    refine tk 7 hHeld ?_ (hy := fun w hSw => by (try dsimp only at hSw); have k0 := (hSw.cell (p := ⟨g, o + k * 4, none⟩) hgl).trans e0; have k1 := (hSw.cell (p := ⟨g, o + k * 4 + 1, none⟩) hgl).trans e1; have k2 := (hSw.cell (p := ⟨g, o + k * 4 + 2, none⟩) hgl).trans e2; have k3 := (hSw.cell (p := ⟨g, o + k * 4 + 3, none⟩) hgl).trans e3; clear hSw; go_simp; try with_reducible rfl)
                    refine rd1 8 (fun K hK => ?_)
                    go_simp
                    go_at_call 48
                    refine (hZ _).mono ?_
                    rintro e w9 ⟨rfl, hb⟩
                    refine hK.out _ _ (hHeld.trans (hb.mono hHeld.size)) (fun hHeld => ?_)
                    clear hK K hb
                    refine tk 9 hHeld ?_
                    refine rd0 ?_
                    have HF := Lib.hid hHeld
                    clear hHeld
                    clear hZ
                    have HS9 := Lib.hid (HS8.out.call HF.out)
                    clear r0 r1 r2 r3 e0 e1 e2 e3 hgx hgl
                    have r0 := HS9.out.2.2.1.at_ 0 rfl
                    have r1 := HS9.out.2.2.1.at_ 1 rfl
                    have r2 := HS9.out.2.2.1.at_ 2 rfl
                    have r3 := HS9.out.2.2.1.at_ 3 rfl
                    have e0 := (HS9.out.2.2.2.1.cell (p := ⟨g, o + k * 4, none⟩) HG0.out).trans E0.out
                    have e1 := (HS9.out.2.2.2.1.cell (p := ⟨g, o + k * 4 + 1, none⟩) HG0.out).trans E1.out
                    have e2 := (HS9.out.2.2.2.1.cell (p := ⟨g, o + k * 4 + 2, none⟩) HG0.out).trans E2.out
                    have e3 := (HS9.out.2.2.2.1.cell (p := ⟨g, o + k * 4 + 3, none⟩) HG0.out).trans E3.out
                    cases z with
                    | true =>
                      have HIN := Lib.hid (show insTo L ((l0, l1), s) u (k + 1) true (out ++ [((l0, l1), s, u)] ++ [((x0, x1), x2, x3)]) from insTo_less HX.out HI.out HNE.out (HLT.out.1 rfl))
                      have HLN2 := Lib.hid (show (out ++ [((l0, l1), s, u)]).length ≤ 1000000 from by have := HI.out.1; simp; omega)
                      go_wp2_with (first
                        | (at_builtin; refine wpList_row rfl (.tmp 147) (.tmp 149) rfl rfl rfl rfl (HS9.out.call (by bel)) (Blk.new _ _ _) HSL.out HLN.out ?_; intro v5 w5' hS' hl'; have HSa := Lib.hid hS'; clear hS' hl'
                           have f0 := (HSa.out.2.2.2.1.cell (p := ⟨g, o + k * 4, none⟩) HG0.out).trans E0.out
                           have f1 := (HSa.out.2.2.2.1.cell (p := ⟨g, o + k * 4 + 1, none⟩) HG0.out).trans E1.out
                           have f2 := (HSa.out.2.2.2.1.cell (p := ⟨g, o + k * 4 + 2, none⟩) HG0.out).trans E2.out
                           have f3 := (HSa.out.2.2.2.1.cell (p := ⟨g, o + k * 4 + 3, none⟩) HG0.out).trans E3.out)
                        | (at_builtin; refine wpList_row rfl (.tmp 151) (.tmp 156) rfl rfl rfl rfl (HSa.out.call (by bel)) (Blk.new _ _ _) HSX.out HLN2.out ?_; intro v' w' hS' hl'; have HSb := Lib.hid hS'; clear hS' hl'))
                      go_roundw
                      case rel => exact ⟨k + 1, true, _, u, by omega, by go_num, rfl, HIN, Lib.hid (fun h => by cases h), HSb.out⟩
                      case measure => simp [intOf]; omega
                    | false =>
                      have HIN := Lib.hid (insTo_go HX.out HI.out HNE.out (fun h => by have := HLT.out.2 h; cases this))
                      go_wp2_with (at_builtin; refine wpList_row rfl (.tmp 151) (.tmp 156) rfl rfl rfl rfl (HS9.out.call (by bel)) (Blk.new _ _ _) HSX.out HLN.out ?_; intro v' w' hS' hl'; have HSb := Lib.hid hS'; clear hS' hl')
                      go_roundw
                      case rel => exact ⟨k + 1, false, _, u, by omega, by go_num, rfl, HIN, Lib.hid (fun _ => rfl), HSb.out⟩
                      case measure => simp [intOf]; omega
          · have hdl : decide ((k : Int) < (L.length : Int)) = false := decide_eq_false (by omega)
            obtain rfl : k = L.length := by omega
            have r0 : wr.cell? ⟨W.heap.size + 1 + 1, 0, none⟩ = some (.int .i64 l0) := hS.2.2.1.at_ 0 rfl
            have r1 : wr.cell? ⟨W.heap.size + 1 + 1, 1, none⟩ = some (.int .i64 l1) := hS.2.2.1.at_ 1 rfl
            have r2 : wr.cell? ⟨W.heap.size + 1 + 1, 2, none⟩ = some (.string s) := hS.2.2.1.at_ 2 rfl
            have r3 : wr.cell? ⟨W.heap.size + 1 + 1, 3, none⟩ = some (.int .i64 u) := hS.2.2.1.at_ 3 rfl
            have HLN := Lib.hid (show out.length ≤ 1000000 from by have := HI.out.1; omega)
            clear hS hB
            cases put with
            | true =>
              have HIN := Lib.hid (insTo_put HI.out)
              go_wp2
              go_ret
              rw [HE.out, ← HIN.out]
              exact HS.out.1.news hzw HBW.out
            | false =>
              have hu0 := HU.out rfl
              subst hu0
              have HIN := Lib.hid (insTo_end HI.out)
              go_wp2_with (at_builtin; refine wpList_row rfl (.tmp 160) (.tmp 162) rfl rfl rfl rfl (HS.out.call (by bel)) (Blk.new _ _ _) HSL.out HLN.out ?_; intro v' w' hS' hl'; have HS9 := Lib.hid hS'; clear hS' hl')
              go_ret
              rw [HE.out, ← HIN.out]
              exact HS9.out.1.news hzw (HB7.out.trans (HS9.out.2.2.2.1.mono hzw))

      | false =>
        cases h6 : decide ((6 : Int) ≤ (m : Int)) with
        | true =>
          have h6n := of_decide_eq_true h6
          have HE := Lib.hid (addV_no (L := L) (a := ((l0, l1), s)) (n := n) h4 h8 (fun h => by have h := h.2.2.2.2; rw [HTK.out] at h; simp at h; omega))
          obtain ⟨v', w', hr, hrow, hb⟩ := HV7.out.more ((H.out.below R_Use_ok HB7.out).more R_Use_ok HB7.out.size) (by simp only [List.length_nil]; omega)
          have HQR := Lib.hid hr
          have HQV := Lib.hid (show URow w' w0.heap.size v' L from hrow)
          have HQB := Lib.hid (HB7.out.trans (hb.mono HB0.out.size))
          clear hr hrow hb
          go_wp2_with (at_builtin; refine wpList_app rfl (.tmp 95) (.tmp 96) 23 rfl rfl rfl HQR.out ?_)
          go_ret
          rw [HE.out]
          exact HQV.out.news HB0.out.size HQB.out
        | false =>
          have h6n := of_decide_eq_false h6
          cases h9 : decide ((48 : Int) ≤ (L.length : Int)) with
          | true =>
            have h9n := of_decide_eq_true h9
            have HE := Lib.hid (addV_no (L := L) (a := ((l0, l1), s)) (n := n) h4 h8 (fun h => by have h := h.2.2.2.2; rw [HTK.out] at h; simp at h; omega))
            obtain ⟨v', w', hr, hrow, hb⟩ := HV7.out.more ((H.out.below R_Use_ok HB7.out).more R_Use_ok HB7.out.size) (by simp only [List.length_nil]; omega)
            have HQR := Lib.hid hr
            have HQV := Lib.hid (show URow w' w0.heap.size v' L from hrow)
            have HQB := Lib.hid (HB7.out.trans (hb.mono HB0.out.size))
            clear hr hrow hb
            go_wp2_with (at_builtin; refine wpList_app rfl (.tmp 95) (.tmp 96) 23 rfl rfl rfl HQR.out ?_)
            go_ret
            rw [HE.out]
            exact HQV.out.news HB0.out.size HQB.out
          | false =>
            have h9n := of_decide_eq_false h9
            have HE := Lib.hid (addV_yes (L := L) (a := ((l0, l1), s)) (n := n) h4 h8 ⟨HQ1.out, HQ2.out, HQ3.out, HQ4.out, by rw [HTK.out]; simp; omega⟩)
            have HS7 := Lib.hid (show RowS w7 w0.heap.size (W.heap.size + 1 + 1) l0 l1 s (.slice (some ⟨W.heap.size + 1, 0, none⟩) 0 0) [] n w7 from ⟨HV7.out, (by intro h; simp [Value.ownBlock] at h), HX7.out, Below.refl _ _, by have := HZ0.out; omega⟩)
            clear HV7 HX7 p0 p1
            go_wp2
            go_loopw [15, 9, 14] (fun i v p wr => ∃ (k : Nat) (put : Bool) (out : List D_Use) (u : Int), k ≤ L.length ∧ i = .int .i64 k ∧ p = .bool put ∧ Hid (insTo L ((l0, l1), s) n k put out) ∧ Hid (put = false → u = n) ∧ RowS w7 w0.heap.size (W.heap.size + 1 + 1) l0 l1 s v out u wr) (fun i _ _ _ => L.length - (intOf i).toNat)
            case atStart => exact ⟨0, false, [], n, Nat.zero_le _, rfl, rfl, Lib.hid (insTo_zero _ _ _), Lib.hid fun _ => rfl, HS7.out⟩
            case round =>
              obtain ⟨v, rfl⟩ : ∃ x, x = u9 := ⟨_, rfl⟩
              obtain ⟨k, put, out, u, hk, rfl, rfl, HI, HU, hS⟩ := hrel
              have HS := Lib.hid hS
              have hB := hS.2.2.2.1
              have hzw : W.heap.size ≤ w0.heap.size := by have := HZ0.out; omega
              have HBW := Lib.hid (HB7.out.trans (hB.mono hzw))
              have hsz := hB.size
              by_cases hlt : k < L.length
              · skip
                obtain ⟨⟨⟨x0, x1⟩, x2, x3⟩, hx⟩ := el_some hlt
                have HX := Lib.hid hx
                obtain ⟨g, o, us, rfl, hg, hu, hr⟩ := (H.out.below R_Use_ok HBW.out).at_ hx
                obtain ⟨rfl, b_x2⟩ := rd_Use hr
                have e0 : wr.cell? ⟨g, o + k * 4, none⟩ = some (.int .i64 x0) := by simpa [size_UseS, Nat.add_assoc] using hu 0 _ rfl
                have e1 : wr.cell? ⟨g, o + k * 4 + 1, none⟩ = some (.int .i64 x1) := by simpa [size_UseS, Nat.add_assoc] using hu 1 _ rfl
                have e2 : wr.cell? ⟨g, o + k * 4 + 2, none⟩ = some (.string x2) := by simpa [size_UseS, Nat.add_assoc] using hu 2 _ rfl
                have e3 : wr.cell? ⟨g, o + k * 4 + 3, none⟩ = some (.int .i64 x3) := by simpa [size_UseS, Nat.add_assoc] using hu 3 _ rfl
                obtain ⟨g', o', us', he7, hg7, hu7, hr7⟩ := (H.out.below R_Use_ok HB7.out).at_ hx
                cases he7
                obtain ⟨rfl, _⟩ := rd_Use hr7
                have E0 := Lib.hid (show w7.cell? ⟨g, o + k * 4, none⟩ = some (.int .i64 x0) from by simpa [size_UseS, Nat.add_assoc] using hu7 0 _ rfl)
                have E1 := Lib.hid (show w7.cell? ⟨g, o + k * 4 + 1, none⟩ = some (.int .i64 x1) from by simpa [size_UseS, Nat.add_assoc] using hu7 1 _ rfl)
                have E2 := Lib.hid (show w7.cell? ⟨g, o + k * 4 + 2, none⟩ = some (.string x2) from by simpa [size_UseS, Nat.add_assoc] using hu7 2 _ rfl)
                have E3 := Lib.hid (show w7.cell? ⟨g, o + k * 4 + 3, none⟩ = some (.int .i64 x3) from by simpa [size_UseS, Nat.add_assoc] using hu7 3 _ rfl)
                have HG0 := Lib.hid (show g < w0.heap.size from Nat.lt_of_lt_of_le hg hzw)
                clear hg7 hu7 hr7
                have HPR := Lib.hid (show Blk wr W.heap.size 25 #[.int .i64 l0, .int .i64 l1] from (hB.block W.heap.size (by have := HZ0.out; omega)).trans HP7.out)
                have q0 : wr.cell? ⟨W.heap.size, 0, none⟩ = some (.int .i64 l0) := HPR.out.at_ 0 rfl
                have q1 : wr.cell? ⟨W.heap.size, 1, none⟩ = some (.int .i64 l1) := HPR.out.at_ 1 rfl
                have r0 : wr.cell? ⟨W.heap.size + 1 + 1, 0, none⟩ = some (.int .i64 l0) := hS.2.2.1.at_ 0 rfl
                have r1 : wr.cell? ⟨W.heap.size + 1 + 1, 1, none⟩ = some (.int .i64 l1) := hS.2.2.1.at_ 1 rfl
                have r2 : wr.cell? ⟨W.heap.size + 1 + 1, 2, none⟩ = some (.string s) := hS.2.2.1.at_ 2 rfl
                have r3 : wr.cell? ⟨W.heap.size + 1 + 1, 3, none⟩ = some (.int .i64 u) := hS.2.2.1.at_ 3 rfl
                have rf := hS.2.2.1.soft 3
                have hi0 : (0 : Int) ≤ (k : Int) := Int.natCast_nonneg _
                have hi1 : (k : Int) < (L.length : Int) := by omega
                have hkk := usesR_keyed HR.out _ (List.mem_of_getElem? hx)
                have hx1 : 1 ≤ x3 := hkk.2.2.1
                have hx2 : x3 ≤ 100000 := hkk.2.2.2.1
                have HOK := Lib.hid (HR.out.2 k _ hx).1.1
                have hwr : IntKind.i64.wrap (x3 + n) = x3 + n := Go.IntWalk.i64_in _ (by omega)
                have HLN := Lib.hid (show out.length ≤ 1000000 from by have := HI.out.1; omega)
                have HSX := Lib.hid b_x2
                obtain ⟨b, hb⟩ : ∃ b, decide (((x0, x1) : Int × Int) = (l0, l1)) = b := ⟨_, rfl⟩
                have hq := eql_lab x0 x1 l0 l1 b hb
                obtain ⟨c, hc⟩ : ∃ c, (x2.toList == s.toList) = c := ⟨_, rfl⟩
                have HKU := Lib.hid (show ku ((x0, x1), x2, x3) = ((l0, l1), s) ↔ (b && c) = true from by rw [ku_iff, hb, hc]; cases b <;> cases c <;> simp)
                clear hu hr hg hB hx hb hkk b_x2 hS
                cases put with
                | true =>
                  have HIN := Lib.hid (insTo_more HX.out HI.out)
                  go_wp2_with fail
                  go_quiet (fail)
                  all_goals
                    go_wp2_with fail
                    go_quiet (fail)
                    all_goals
                      go_wp2_with (at_builtin; refine wpList_row rfl (.tmp 151) (.tmp 156) rfl rfl rfl rfl (HS.out.call (by bel)) (Blk.new _ _ _) HSX.out HLN.out ?_; intro v' w' hS' hl'; have HS9 := Lib.hid hS'; clear hS' hl')
                      go_roundw
                      case rel => exact ⟨k + 1, true, _, u, by omega, by go_num, rfl, HIN, Lib.hid (fun h => by cases h), HS9.out⟩
                      case measure => simp [intOf]; omega
                | false =>
                  have hu0 := HU.out rfl
                  subst hu0
                  cases hbc : (b && c) with
                  | true =>
                    obtain ⟨rfl, rfl⟩ : b = true ∧ c = true := by simpa using hbc
                    have HIN := Lib.hid (show insTo L ((l0, l1), s) u (k + 1) true (out ++ [((l0, l1), s, addM x3 u)]) from insTo_hit HX.out HI.out (HKU.out.2 rfl))
                    have hmn : ∀ V, Calls Try.prog 47 #[.int .i64 (x3 + u), .int .i64 100000] V fun e w' => e = .returned (.int .i64 (addM x3 u)) ∧ V = w' := fun V => (LabC.min_any _ _ V).mono fun e w' ⟨h1, h2⟩ => ⟨by rw [h1]; congr 2; unfold LabC.minV addM; split <;> split <;> omega, h2⟩
                    clear hbc
                    go_wp2_with fail
                    go_quiet (fail)
                    all_goals
                      go_wp2_with fail
                      refine (hmn _).mono ?_
                      rintro e w8 ⟨rfl, hw⟩
                      have HS8 := Lib.hid (show RowS w7 w0.heap.size (W.heap.size + 1 + 1) l0 l1 s v out u w8 from by rw [← hw]; exact HS.out.call (by bel))
                      clear hw r0 r1 r2 r3 rf
                      have r0 : w8.cell? ⟨W.heap.size + 1 + 1, 0, none⟩ = some (.int .i64 l0) := HS8.out.2.2.1.at_ 0 rfl
                      have r1 : w8.cell? ⟨W.heap.size + 1 + 1, 1, none⟩ = some (.int .i64 l1) := HS8.out.2.2.1.at_ 1 rfl
                      have r2 : w8.cell? ⟨W.heap.size + 1 + 1, 2, none⟩ = some (.string s) := HS8.out.2.2.1.at_ 2 rfl
                      have r3 : w8.cell? ⟨W.heap.size + 1 + 1, 3, none⟩ = some (.int .i64 u) := HS8.out.2.2.1.at_ 3 rfl
                      have rf := HS8.out.2.2.1.soft 3
                      have HBK := Lib.hid (show Blk ((w8.setCell ⟨W.heap.size + 1 + 1, 3, none⟩ (.int .i64 (addM x3 u))).alloc (.cells #[.int .i64 l0, .int .i64 l1, .string s, .int .i64 (addM x3 u)] 68)) w8.heap.size 68 #[.int .i64 l0, .int .i64 l1, .string s, .int .i64 (addM x3 u)] from by
                        have h9 := Blk.new (w8.setCell ⟨W.heap.size + 1 + 1, 3, none⟩ (.int .i64 (addM x3 u))) 68 #[.int .i64 l0, .int .i64 l1, .string s, .int .i64 (addM x3 u)]
                        have e : (w8.setCell ⟨W.heap.size + 1 + 1, 3, none⟩ (.int .i64 (addM x3 u))).heap.size = w8.heap.size := by simp
                        rw [e] at h9
                        exact h9)
                      have HS10 := Lib.hid (show RowS w7 w0.heap.size (W.heap.size + 1 + 1) l0 l1 s v out (addM x3 u) ((w8.setCell ⟨W.heap.size + 1 + 1, 3, none⟩ (.int .i64 (addM x3 u))).alloc (.cells #[.int .i64 l0, .int .i64 l1, .string s, .int .i64 (addM x3 u)] 68)) from RowS.call (RowS.set HS8.out (addM x3 u)) ((Below.refl _ _).alloc (Nat.le_refl _) _))
                      go_wp2_with (at_builtin; refine wpList_row rfl (.tmp 133) (.tmp 135) rfl rfl rfl rfl HS10.out HBK.out HSL.out HLN.out ?_; intro v' w' hS' hl'; have HS9 := Lib.hid hS'; clear hS' hl')
                      go_roundw
                      case rel => exact ⟨k + 1, true, _, addM x3 u, by omega, by go_num, rfl, HIN, Lib.hid (fun h => by cases h), HS9.out⟩
                      case measure => simp [intOf]; omega
                  | false =>
                    have HNE := Lib.hid (show ku ((x0, x1), x2, x3) ≠ ((l0, l1), s) from fun e => by have := HKU.out.1 e; rw [hbc] at this; cases this)
                    cases b with
                    | false =>
                      clear hbc
                      go_wp2_with fail
                      go_quiet (fail)
                      all_goals
                        go_wp2_with fail
                        generalize hw8 : wr.drewN _ = w8
                        have HS8 := Lib.hid (show RowS w7 w0.heap.size (W.heap.size + 1 + 1) l0 l1 s v out u w8 from by rw [← hw8]; exact HS.out.call (bdrewN (Below.refl _ _) _))
                        clear hw8 r0 r1 r2 r3 rf e0 e1 e2 e3 q0 q1
                        have r0 : w8.cell? ⟨W.heap.size + 1 + 1, 0, none⟩ = some (.int .i64 l0) := HS8.out.2.2.1.at_ 0 rfl
                        have r1 : w8.cell? ⟨W.heap.size + 1 + 1, 1, none⟩ = some (.int .i64 l1) := HS8.out.2.2.1.at_ 1 rfl
                        have r2 : w8.cell? ⟨W.heap.size + 1 + 1, 2, none⟩ = some (.string s) := HS8.out.2.2.1.at_ 2 rfl
                        have r3 : w8.cell? ⟨W.heap.size + 1 + 1, 3, none⟩ = some (.int .i64 u) := HS8.out.2.2.1.at_ 3 rfl
                        have e0 := (HS8.out.2.2.2.1.cell (p := ⟨g, o + k * 4, none⟩) HG0.out).trans E0.out
                        have e1 := (HS8.out.2.2.2.1.cell (p := ⟨g, o + k * 4 + 1, none⟩) HG0.out).trans E1.out
                        have e2 := (HS8.out.2.2.2.1.cell (p := ⟨g, o + k * 4 + 2, none⟩) HG0.out).trans E2.out
                        have e3 := (HS8.out.2.2.2.1.cell (p := ⟨g, o + k * 4 + 3, none⟩) HG0.out).trans E3.out
                        have hgx : W.heap.size + 1 + 1 < w8.heap.size := HS8.out.2.2.1.lt
                        have hgl : g < w8.heap.size := by have h1 := HS8.out.2.2.2.2; have h2 := HG0.out; omega
                        obtain ⟨z, hz⟩ : ∃ z, lessB ((l0, l1), s, u) ((x0, x1), x2, x3) = z := ⟨_, rfl⟩
                        have hZ : ∀ V : World, Calls Try.prog 48 #[.agg #[.int .i64 l0, .int .i64 l1, .string s, .int .i64 u], .agg #[.int .i64 x0, .int .i64 x1, .string x2, .int .i64 x3]] V fun e w' => e = .returned (.bool z) ∧ Below V.heap.size V w' := fun V => by rw [← hz]; exact less_w HQ2.out HOK.out V
                        have HLT := Lib.hid (show z = true ↔ ltA ((l0, l1), s) (ku ((x0, x1), x2, x3)) from by rw [← hz]; exact lessB_iff HQ2.out HOK.out)
                        clear hz
                        refine wp_region_held_drew (S := (fun V => Below (w8).heap.size (w8) V)) (by kernel_rfl) ((Below.refl _ _).drew) (fun hHeld => ?_)
                        refine tk 0 hHeld ?_
                        refine tk 1 hHeld ?_
                        refine tk 2 hHeld ?_
                        refine tk 3 hHeld ?_ (hy := fun w hSw => by (try dsimp only at hSw); have k0 := (hSw.cell (p := ⟨W.heap.size + 1 + 1, 0, none⟩) hgx).trans r0; have k1 := (hSw.cell (p := ⟨W.heap.size + 1 + 1, 1, none⟩) hgx).trans r1; have k2 := (hSw.cell (p := ⟨W.heap.size + 1 + 1, 2, none⟩) hgx).trans r2; have k3 := (hSw.cell (p := ⟨W.heap.size + 1 + 1, 3, none⟩) hgx).trans r3; clear hSw; go_simp; try with_reducible rfl)
                        refine tk 4 hHeld ?_
                        refine tk 5 hHeld ?_
                        refine tk 6 hHeld ?_
                        refine tk 7 hHeld ?_ (hy := fun w hSw => by (try dsimp only at hSw); have k0 := (hSw.cell (p := ⟨g, o + k * 4, none⟩) hgl).trans e0; have k1 := (hSw.cell (p := ⟨g, o + k * 4 + 1, none⟩) hgl).trans e1; have k2 := (hSw.cell (p := ⟨g, o + k * 4 + 2, none⟩) hgl).trans e2; have k3 := (hSw.cell (p := ⟨g, o + k * 4 + 3, none⟩) hgl).trans e3; clear hSw; go_simp; try with_reducible rfl)
                        refine rd1 8 (fun K hK => ?_)
                        go_simp
                        go_at_call 48
                        refine (hZ _).mono ?_
                        rintro e w9 ⟨rfl, hb⟩
                        refine hK.out _ _ (hHeld.trans (hb.mono hHeld.size)) (fun hHeld => ?_)
                        clear hK K hb
                        refine tk 9 hHeld ?_
                        refine rd0 ?_
                        have HF := Lib.hid hHeld
                        clear hHeld
                        clear hZ
                        have HS9 := Lib.hid (HS8.out.call HF.out)
                        clear r0 r1 r2 r3 e0 e1 e2 e3 hgx hgl
                        have r0 := HS9.out.2.2.1.at_ 0 rfl
                        have r1 := HS9.out.2.2.1.at_ 1 rfl
                        have r2 := HS9.out.2.2.1.at_ 2 rfl
                        have r3 := HS9.out.2.2.1.at_ 3 rfl
                        have e0 := (HS9.out.2.2.2.1.cell (p := ⟨g, o + k * 4, none⟩) HG0.out).trans E0.out
                        have e1 := (HS9.out.2.2.2.1.cell (p := ⟨g, o + k * 4 + 1, none⟩) HG0.out).trans E1.out
                        have e2 := (HS9.out.2.2.2.1.cell (p := ⟨g, o + k * 4 + 2, none⟩) HG0.out).trans E2.out
                        have e3 := (HS9.out.2.2.2.1.cell (p := ⟨g, o + k * 4 + 3, none⟩) HG0.out).trans E3.out
                        cases z with
                        | true =>
                          have HIN := Lib.hid (show insTo L ((l0, l1), s) u (k + 1) true (out ++ [((l0, l1), s, u)] ++ [((x0, x1), x2, x3)]) from insTo_less HX.out HI.out HNE.out (HLT.out.1 rfl))
                          have HLN2 := Lib.hid (show (out ++ [((l0, l1), s, u)]).length ≤ 1000000 from by have := HI.out.1; simp; omega)
                          go_wp2_with (first
                            | (at_builtin; refine wpList_row rfl (.tmp 147) (.tmp 149) rfl rfl rfl rfl (HS9.out.call (by bel)) (Blk.new _ _ _) HSL.out HLN.out ?_; intro v5 w5' hS' hl'; have HSa := Lib.hid hS'; clear hS' hl'
                               have f0 := (HSa.out.2.2.2.1.cell (p := ⟨g, o + k * 4, none⟩) HG0.out).trans E0.out
                               have f1 := (HSa.out.2.2.2.1.cell (p := ⟨g, o + k * 4 + 1, none⟩) HG0.out).trans E1.out
                               have f2 := (HSa.out.2.2.2.1.cell (p := ⟨g, o + k * 4 + 2, none⟩) HG0.out).trans E2.out
                               have f3 := (HSa.out.2.2.2.1.cell (p := ⟨g, o + k * 4 + 3, none⟩) HG0.out).trans E3.out)
                            | (at_builtin; refine wpList_row rfl (.tmp 151) (.tmp 156) rfl rfl rfl rfl (HSa.out.call (by bel)) (Blk.new _ _ _) HSX.out HLN2.out ?_; intro v' w' hS' hl'; have HSb := Lib.hid hS'; clear hS' hl'))
                          go_roundw
                          case rel => exact ⟨k + 1, true, _, u, by omega, by go_num, rfl, HIN, Lib.hid (fun h => by cases h), HSb.out⟩
                          case measure => simp [intOf]; omega
                        | false =>
                          have HIN := Lib.hid (insTo_go HX.out HI.out HNE.out (fun h => by have := HLT.out.2 h; cases this))
                          go_wp2_with (at_builtin; refine wpList_row rfl (.tmp 151) (.tmp 156) rfl rfl rfl rfl (HS9.out.call (by bel)) (Blk.new _ _ _) HSX.out HLN.out ?_; intro v' w' hS' hl'; have HSb := Lib.hid hS'; clear hS' hl')
                          go_roundw
                          case rel => exact ⟨k + 1, false, _, u, by omega, by go_num, rfl, HIN, Lib.hid (fun _ => rfl), HSb.out⟩
                          case measure => simp [intOf]; omega
                    | true =>
                      obtain rfl : c = false := by simpa using hbc
                      clear hbc
                      go_wp2_with fail
                      go_quiet (fail)
                      all_goals
                        go_wp2_with fail
                        generalize hw8 : wr.drewN _ = w8
                        have HS8 := Lib.hid (show RowS w7 w0.heap.size (W.heap.size + 1 + 1) l0 l1 s v out u w8 from by rw [← hw8]; exact HS.out.call (bdrewN (Below.refl _ _) _))
                        clear hw8 r0 r1 r2 r3 rf e0 e1 e2 e3 q0 q1
                        have r0 : w8.cell? ⟨W.heap.size + 1 + 1, 0, none⟩ = some (.int .i64 l0) := HS8.out.2.2.1.at_ 0 rfl
                        have r1 : w8.cell? ⟨W.heap.size + 1 + 1, 1, none⟩ = some (.int .i64 l1) := HS8.out.2.2.1.at_ 1 rfl
                        have r2 : w8.cell? ⟨W.heap.size + 1 + 1, 2, none⟩ = some (.string s) := HS8.out.2.2.1.at_ 2 rfl
                        have r3 : w8.cell? ⟨W.heap.size + 1 + 1, 3, none⟩ = some (.int .i64 u) := HS8.out.2.2.1.at_ 3 rfl
                        have e0 := (HS8.out.2.2.2.1.cell (p := ⟨g, o + k * 4, none⟩) HG0.out).trans E0.out
                        have e1 := (HS8.out.2.2.2.1.cell (p := ⟨g, o + k * 4 + 1, none⟩) HG0.out).trans E1.out
                        have e2 := (HS8.out.2.2.2.1.cell (p := ⟨g, o + k * 4 + 2, none⟩) HG0.out).trans E2.out
                        have e3 := (HS8.out.2.2.2.1.cell (p := ⟨g, o + k * 4 + 3, none⟩) HG0.out).trans E3.out
                        have hgx : W.heap.size + 1 + 1 < w8.heap.size := HS8.out.2.2.1.lt
                        have hgl : g < w8.heap.size := by have h1 := HS8.out.2.2.2.2; have h2 := HG0.out; omega
                        obtain ⟨z, hz⟩ : ∃ z, lessB ((l0, l1), s, u) ((x0, x1), x2, x3) = z := ⟨_, rfl⟩
                        have hZ : ∀ V : World, Calls Try.prog 48 #[.agg #[.int .i64 l0, .int .i64 l1, .string s, .int .i64 u], .agg #[.int .i64 x0, .int .i64 x1, .string x2, .int .i64 x3]] V fun e w' => e = .returned (.bool z) ∧ Below V.heap.size V w' := fun V => by rw [← hz]; exact less_w HQ2.out HOK.out V
                        have HLT := Lib.hid (show z = true ↔ ltA ((l0, l1), s) (ku ((x0, x1), x2, x3)) from by rw [← hz]; exact lessB_iff HQ2.out HOK.out)
                        clear hz
                        refine wp_region_held_drew (S := (fun V => Below (w8).heap.size (w8) V)) (by kernel_rfl) ((Below.refl _ _).drew) (fun hHeld => ?_)
                        refine tk 0 hHeld ?_
                        refine tk 1 hHeld ?_
                        refine tk 2 hHeld ?_
                        refine tk 3 hHeld ?_ (hy := fun w hSw => by (try dsimp only at hSw); have k0 := (hSw.cell (p := ⟨W.heap.size + 1 + 1, 0, none⟩) hgx).trans r0; have k1 := (hSw.cell (p := ⟨W.heap.size + 1 + 1, 1, none⟩) hgx).trans r1; have k2 := (hSw.cell (p := ⟨W.heap.size + 1 + 1, 2, none⟩) hgx).trans r2; have k3 := (hSw.cell (p := ⟨W.heap.size + 1 + 1, 3, none⟩) hgx).trans r3; clear hSw; go_simp; try with_reducible rfl)
                        refine tk 4 hHeld ?_
                        refine tk 5 hHeld ?_
                        refine tk 6 hHeld ?_
                        refine tk 7 hHeld ?_ (hy := fun w hSw => by (try dsimp only at hSw); have k0 := (hSw.cell (p := ⟨g, o + k * 4, none⟩) hgl).trans e0; have k1 := (hSw.cell (p := ⟨g, o + k * 4 + 1, none⟩) hgl).trans e1; have k2 := (hSw.cell (p := ⟨g, o + k * 4 + 2, none⟩) hgl).trans e2; have k3 := (hSw.cell (p := ⟨g, o + k * 4 + 3, none⟩) hgl).trans e3; clear hSw; go_simp; try with_reducible rfl)
                        refine rd1 8 (fun K hK => ?_)
                        go_simp
                        go_at_call 48
                        refine (hZ _).mono ?_
                        rintro e w9 ⟨rfl, hb⟩
                        refine hK.out _ _ (hHeld.trans (hb.mono hHeld.size)) (fun hHeld => ?_)
                        clear hK K hb
                        refine tk 9 hHeld ?_
                        refine rd0 ?_
                        have HF := Lib.hid hHeld
                        clear hHeld
                        clear hZ
                        have HS9 := Lib.hid (HS8.out.call HF.out)
                        clear r0 r1 r2 r3 e0 e1 e2 e3 hgx hgl
                        have r0 := HS9.out.2.2.1.at_ 0 rfl
                        have r1 := HS9.out.2.2.1.at_ 1 rfl
                        have r2 := HS9.out.2.2.1.at_ 2 rfl
                        have r3 := HS9.out.2.2.1.at_ 3 rfl
                        have e0 := (HS9.out.2.2.2.1.cell (p := ⟨g, o + k * 4, none⟩) HG0.out).trans E0.out
                        have e1 := (HS9.out.2.2.2.1.cell (p := ⟨g, o + k * 4 + 1, none⟩) HG0.out).trans E1.out
                        have e2 := (HS9.out.2.2.2.1.cell (p := ⟨g, o + k * 4 + 2, none⟩) HG0.out).trans E2.out
                        have e3 := (HS9.out.2.2.2.1.cell (p := ⟨g, o + k * 4 + 3, none⟩) HG0.out).trans E3.out
                        cases z with
                        | true =>
                          have HIN := Lib.hid (show insTo L ((l0, l1), s) u (k + 1) true (out ++ [((l0, l1), s, u)] ++ [((x0, x1), x2, x3)]) from insTo_less HX.out HI.out HNE.out (HLT.out.1 rfl))
                          have HLN2 := Lib.hid (show (out ++ [((l0, l1), s, u)]).length ≤ 1000000 from by have := HI.out.1; simp; omega)
                          go_wp2_with (first
                            | (at_builtin; refine wpList_row rfl (.tmp 147) (.tmp 149) rfl rfl rfl rfl (HS9.out.call (by bel)) (Blk.new _ _ _) HSL.out HLN.out ?_; intro v5 w5' hS' hl'; have HSa := Lib.hid hS'; clear hS' hl'
                               have f0 := (HSa.out.2.2.2.1.cell (p := ⟨g, o + k * 4, none⟩) HG0.out).trans E0.out
                               have f1 := (HSa.out.2.2.2.1.cell (p := ⟨g, o + k * 4 + 1, none⟩) HG0.out).trans E1.out
                               have f2 := (HSa.out.2.2.2.1.cell (p := ⟨g, o + k * 4 + 2, none⟩) HG0.out).trans E2.out
                               have f3 := (HSa.out.2.2.2.1.cell (p := ⟨g, o + k * 4 + 3, none⟩) HG0.out).trans E3.out)
                            | (at_builtin; refine wpList_row rfl (.tmp 151) (.tmp 156) rfl rfl rfl rfl (HSa.out.call (by bel)) (Blk.new _ _ _) HSX.out HLN2.out ?_; intro v' w' hS' hl'; have HSb := Lib.hid hS'; clear hS' hl'))
                          go_roundw
                          case rel => exact ⟨k + 1, true, _, u, by omega, by go_num, rfl, HIN, Lib.hid (fun h => by cases h), HSb.out⟩
                          case measure => simp [intOf]; omega
                        | false =>
                          have HIN := Lib.hid (insTo_go HX.out HI.out HNE.out (fun h => by have := HLT.out.2 h; cases this))
                          go_wp2_with (at_builtin; refine wpList_row rfl (.tmp 151) (.tmp 156) rfl rfl rfl rfl (HS9.out.call (by bel)) (Blk.new _ _ _) HSX.out HLN.out ?_; intro v' w' hS' hl'; have HSb := Lib.hid hS'; clear hS' hl')
                          go_roundw
                          case rel => exact ⟨k + 1, false, _, u, by omega, by go_num, rfl, HIN, Lib.hid (fun _ => rfl), HSb.out⟩
                          case measure => simp [intOf]; omega
              · have hdl : decide ((k : Int) < (L.length : Int)) = false := decide_eq_false (by omega)
                obtain rfl : k = L.length := by omega
                have r0 : wr.cell? ⟨W.heap.size + 1 + 1, 0, none⟩ = some (.int .i64 l0) := hS.2.2.1.at_ 0 rfl
                have r1 : wr.cell? ⟨W.heap.size + 1 + 1, 1, none⟩ = some (.int .i64 l1) := hS.2.2.1.at_ 1 rfl
                have r2 : wr.cell? ⟨W.heap.size + 1 + 1, 2, none⟩ = some (.string s) := hS.2.2.1.at_ 2 rfl
                have r3 : wr.cell? ⟨W.heap.size + 1 + 1, 3, none⟩ = some (.int .i64 u) := hS.2.2.1.at_ 3 rfl
                have HLN := Lib.hid (show out.length ≤ 1000000 from by have := HI.out.1; omega)
                clear hS hB
                cases put with
                | true =>
                  have HIN := Lib.hid (insTo_put HI.out)
                  go_wp2
                  go_ret
                  rw [HE.out, ← HIN.out]
                  exact HS.out.1.news hzw HBW.out
                | false =>
                  have hu0 := HU.out rfl
                  subst hu0
                  have HIN := Lib.hid (insTo_end HI.out)
                  go_wp2_with (at_builtin; refine wpList_row rfl (.tmp 160) (.tmp 162) rfl rfl rfl rfl (HS.out.call (by bel)) (Blk.new _ _ _) HSL.out HLN.out ?_; intro v' w' hS' hl'; have HS9 := Lib.hid hS'; clear hS' hl')
                  go_ret
                  rw [HE.out, ← HIN.out]
                  exact HS9.out.1.news hzw (HB7.out.trans (HS9.out.2.2.2.1.mono hzw))

end Go.Proofs.Ytjhcphmehlihcaa.RepC
