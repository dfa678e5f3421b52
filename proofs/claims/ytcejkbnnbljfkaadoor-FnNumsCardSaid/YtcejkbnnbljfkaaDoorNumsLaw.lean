/- The law on drawn numbers and texts. -/
import Derived.Test.YtcejkbnnbljfkaaDoorNumsMath
import Derived.Test.YtcejkbnnbljfkaaDoorJoin
import Derived.Test.YtcejkbnnbljfkaaDoorDraws
namespace Go.Proofs.YtcejkbnnbljfkaaDoor.NumsL
open Go.RowKit PutM GetM GetC NumsM
open DrawC (CodeIn draw_num draw_text)

theorem cut_end (s : ByteArray) (h : 1 ≤ s.size) (w : World) : (Instr.slice 9 (.string s) none (some (.int .i64 ((s.size : Int) - 1))) none).run Tryd.prog w = .ok (.string (s.extract 0 (s.size - 1))) w := by
  rw [run_slice_string_h w 9 s Tryd.underlying9 .i64 _ (by omega) (by omega)]
  rw [show ((s.size : Int) - 1).toNat = s.size - 1 by omega]
theorem field_num (a b c : Value) (w : World) : (Instr.field 26 (.agg #[a, b, c]) 2).run Tryd.prog w = .ok c w := by kernel_rfl
theorem field_txt (a b c : Value) (w : World) : (Instr.field 31 (.agg #[a, b, c]) 2).run Tryd.prog w = .ok c w := by kernel_rfl
theorem in_below {w w' : World} {b : Option Addr} {len : Nat} (h : CodeIn w b len) (hb : Below w.heap.size w w') : CodeIn w' b len := by
  refine ⟨h.1, fun x hx i hi => ?_⟩
  obtain ⟨hl, c, hc, e⟩ := h.2 x hx i hi
  have hx' : (x.add i).block = x.block := by cases i <;> simp [Addr.add]
  exact ⟨Nat.lt_of_lt_of_le hl hb.size, c, hc, (hb.cell (p := x.add i) (by rw [hx']; exact hl)).trans e⟩

set_option maxRecDepth 100000 in
set_option maxHeartbeats 1000000 in
theorem law_nums (b0 : Option Addr) (n0 c0 : Nat) (b1 : Option Addr) (n1 c1 : Nat) (w : World) (hD : Door w) (h0 : CodeIn w b0 n0) (h1 : CodeIn w b1 n1) (l0 : n0 ≤ maxLen) (l1 : n1 ≤ maxLen) :
    Calls Tryd.prog 3 #[.slice b0 n0 c0, .slice b1 n1 c1] w fun e w' => e = .returned (.bool true) ∧ Below w.heap.size w w' := by
  unfold maxLen at l0 l1
  have HC0 := Lib.hid h0
  have HC1 := Lib.hid h1
  have HD := Lib.hid hD
  clear h0 h1 hD
  by_cases k0 : n0 ≤ 1048576
  · by_cases k1 : n1 ≤ 1048576
    · go_enter Tryd.func3, Tryd.ntmps3
      go_wp2_with fail
      refine (draw_num b0 n0 c0 _ k0 HC0.out).mono ?_
      rintro e w1 ⟨n, rfl, hn1, hn2, hb⟩
      have HB := Lib.hid hb
      clear hb
      go_wp2_with fail
      refine (PutC.put_impl n _ hn1 hn2).mono ?_
      rintro e w2 ⟨rfl, hb⟩
      have HB2 := Lib.hid (HB.out.trans (hb.mono HB.out.size))
      clear hb
      go_wp2_with fail
      refine (PutC.put_spec n _ hn1 hn2).mono ?_
      rintro e w3 ⟨rfl, hb⟩
      have HB3 := Lib.hid (HB2.out.trans (hb.mono HB2.out.size))
      have hD3 : Hid (Door w3) := Lib.hid (HD.out.below HB3.out HD.out.lt)
      clear hb
      have ⟨hz1, hz2⟩ := encB_size hn1 hn2
      have HM : Hid (∀ w, Door w → Calls Tryd.prog 7 #[.string (xyS ++ encB n ++ zS), .int .i64 2] w fun e w' => e = .returned (numV n (((encB n).size : Int) + 2) 0) ∧ Below w.heap.size w w') :=
        Lib.hid (fun w h => num_mid hn1 hn2 ▸ impl_any (xyS ++ encB n ++ zS) ((2 : Nat) : Int) w (by unfold maxLen; rw [ByteArray.size_append, ByteArray.size_append]; show 2 + _ + 1 ≤ _; omega) (by omega) h)
      have HK : Hid (∀ w, Door w → Calls Tryd.prog 7 #[.string ((encB n).extract 0 ((encB n).size - 1)), .int .i64 0] w fun e w' => e = .returned (numV 0 0 4) ∧ Below w.heap.size w w') :=
        Lib.hid (fun w h => num_cut hn1 hn2 ▸ impl_any ((encB n).extract 0 ((encB n).size - 1)) ((0 : Nat) : Int) w (by unfold maxLen; rw [ByteArray.size_extract]; omega) (by omega) h)
      have hcut := cut_end (encB n) hz1
      have ha1 := fun w : World => run_string_add_sum (P := Tryd.prog) w xyS (encB n) (by show 2 + _ ≤ _; omega)
      have ha2 := fun w : World => run_string_add_sum (P := Tryd.prog) w (xyS ++ encB n) zS (by rw [ByteArray.size_append]; show 2 + _ + 1 ≤ _; omega)
      generalize encB n = t at *
      unfold xyS at ha1
      unfold xyS zS at ha2 HM
      go_wp2_with fail
      refine (HM.out _ hD3.out).mono ?_
      unfold numV
      rintro e w4 ⟨rfl, hb⟩
      have HB4 := Lib.hid ((HB3.out.trans (hb.mono HB3.out.size)).alloc (HB3.out.trans (hb.mono HB3.out.size)).size (.cells #[.int .i64 n, .int .i64 ((t.size : Int) + 2), .int .i64 0] 26))
      clear hb ha1 ha2 HM
      have hD4 := HD.out.below HB4.out HD.out.lt
      have hfield := field_num (.int .i64 0) (.int .i64 0) (.int .i64 4)
      go_wp2_with fail
      refine (HK.out _ hD4).mono ?_
      unfold numV
      rintro e w5 ⟨rfl, hb⟩
      have HB5 := Lib.hid (HB4.out.trans (hb.mono HB4.out.size))
      clear hb HK hcut hD4
      go_wp2_with fail
      refine (draw_text b1 n1 c1 _ k1 (in_below HC1.out HB5.out)).mono ?_
      rintro e w6 ⟨u, rfl, hu, hb⟩
      have HB6 := Lib.hid (HB5.out.trans (hb.mono HB5.out.size))
      clear hb hfield
      have hu2 : u.size ≤ maxLen := by unfold maxLen; omega
      go_wp2_with fail
      refine (JoinC.text_impl u _ hu2).mono ?_
      rintro e w7 ⟨rfl, hb⟩
      have HB7 := Lib.hid (HB6.out.trans (hb.mono HB6.out.size))
      clear hb
      go_wp2_with fail
      refine (JoinC.text_spec u _ hu2).mono ?_
      rintro e w8 ⟨rfl, hb⟩
      have HB8 := Lib.hid (HB7.out.trans (hb.mono HB7.out.size))
      clear hb
      by_cases h8 : u.size ≤ 8000
      · rw [JoinC.putT_in h8]
        have ⟨hy1, hy2⟩ := encB_size (n := (u.size : Int)) (by omega) (by omega)
        have hp1 : 1 ≤ (encB u.size ++ u).size ∧ (encB u.size ++ u).size ≤ 8010 := by rw [ByteArray.size_append]; omega
        obtain ⟨hp1, hp2⟩ := hp1
        have hne : (encB u.size ++ u).toList.isEmpty = false := by
          rw [Lib.toList_data, List.isEmpty_eq_false_iff]
          intro e
          have := congrArg List.length e
          rw [← size_list] at this
          simp only [List.length_nil] at this
          omega
        by_cases hp : (encB u.size ++ u).size + 1 ≤ 8000
        · have HT : Hid (∀ w, Door w → Calls Tryd.prog 11 #[.string (xS ++ (encB u.size ++ u)), .int .i64 1] w fun e w' => e = .returned (txtV u (((encB u.size ++ u).size : Int) + 1) 0) ∧ Below w.heap.size w w') := by
            obtain ⟨m, q, e1, e2, e3⟩ := text_mid h8 hp
            have hx : (xS ++ (encB u.size ++ u)).size ≤ maxLen := by unfold maxLen; omega
            exact Lib.hid (fun w h => e3 ▸ text_impl _ ((1 : Nat) : Int) m q 0 w (by unfold maxLen at hx; exact hx) h (fun w h => e1 ▸ impl_any _ _ w hx (by omega) h) (fun _ => e2))
          have HC : Hid (∀ w, Door w → Calls Tryd.prog 11 #[.string ((encB u.size ++ u).extract 0 ((encB u.size ++ u).size - 1)), .int .i64 0] w fun e w' => e = .returned (txtV { data := #[] } 0 4) ∧ Below w.heap.size w w') := by
            obtain ⟨m, q, c, e1, e2, e3⟩ := text_cut h8 hp
            have hx : ((encB u.size ++ u).extract 0 ((encB u.size ++ u).size - 1)).size ≤ maxLen := by unfold maxLen; rw [ByteArray.size_extract]; omega
            exact Lib.hid (fun w h => e3 ▸ text_impl _ ((0 : Nat) : Int) m q c w (by unfold maxLen at hx; exact hx) h (fun w h => e1 ▸ impl_any _ _ w hx (by omega) h) e2)
          have hcut := cut_end (encB u.size ++ u) hp1
          have ha := fun w : World => run_string_add_sum (P := Tryd.prog) w xS (encB u.size ++ u) (by show 1 + _ ≤ _; omega)
          generalize encB u.size ++ u = p at *
          unfold xS at ha HT
          have hD8 := HD.out.below HB8.out HD.out.lt
          have hfield := field_txt (.string { data := #[] }) (.int .i64 0) (.int .i64 4)
          go_wp2_with fail
          refine (HT.out _ hD8).mono ?_
          unfold txtV
          rintro e w9 ⟨rfl, hb⟩
          have HB9 := Lib.hid (HB8.out.trans (hb.mono HB8.out.size))
          clear hb hD8
          have hD9 := HD.out.below HB9.out HD.out.lt
          go_wp2_with fail
          refine (HC.out _ hD9).mono ?_
          unfold txtV
          rintro e w10 ⟨rfl, hb⟩
          have HB10 := Lib.hid (HB9.out.trans (hb.mono HB9.out.size))
          clear hb
          go_wp2
          go_ret
          exact ⟨rfl, HB10.out⟩
        · generalize encB u.size ++ u = p at *
          go_wp2
          go_ret
          exact ⟨rfl, HB8.out⟩
      · have HE : Hid (JoinC.putT u = ByteArray.empty) := Lib.hid (JoinC.putT_out h8)
        rw [HE.out]
        go_wp2_with fail
        refine (JoinC.text_spec u _ hu2).mono ?_
        rw [HE.out]
        rintro e w9 ⟨rfl, hb⟩
        have HB9 := Lib.hid (HB8.out.trans (hb.mono HB8.out.size))
        clear hb
        go_wp2
        go_ret
        exact ⟨rfl, HB9.out⟩
    · go_enter Tryd.func3, Tryd.ntmps3
      go_wp2
      go_ret
      exact ⟨rfl, Below.refl _ _⟩
  · go_enter Tryd.func3, Tryd.ntmps3
    go_wp2
    go_ret
    exact ⟨rfl, Below.refl _ _⟩
end Go.Proofs.YtcejkbnnbljfkaaDoor.NumsL
