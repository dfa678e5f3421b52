/- What is written of a text, in the program and in its model: contracts. -/
import Derived.Test.YtdedomfocljhaaaZrW
import Derived.Test.YtdedomfocljhaaaJoin
import Derived.Test.YtdedomfocljhaaaKp
import Derived.Laws.Slices
namespace Go.Proofs.Ytdedomfocljhaaa.ChC
open Go.RowKit SpanC KeptC RepC ValC RowC
set_option linter.unusedVariables false
set_option linter.unusedSimpArgs false
set_option maxRecDepth 100000

/-- what is written of a text, and what power is left -/
def cutV (p : Int) (t : ByteArray) : ByteArray × Int × Int := if p < 0 then (t, p, 0) else if p < t.size then (t.extract 0 p.toNat, 0, 12) else (t, p - t.size, 0)
theorem cutV_free {p : Int} {t : ByteArray} (h : p < 0) : cutV p t = (t, p, 0) := if_pos h
theorem cutV_cut {p : Int} {t : ByteArray} (h0 : 0 ≤ p) (h : p < t.size) : cutV p t = (t.extract 0 p.toNat, 0, 12) := by unfold cutV; rw [if_neg (by omega), if_pos h]
theorem cutV_whole {p : Int} {t : ByteArray} (h0 : 0 ≤ p) (h : ¬ p < t.size) : cutV p t = (t, p - t.size, 0) := by unfold cutV; rw [if_neg (by omega), if_neg h]
theorem cutV_size (p : Int) (t : ByteArray) : (cutV p t).1.size ≤ t.size := by
  unfold cutV
  split
  · exact Nat.le_refl _
  · split
    · show (t.extract 0 p.toNat).size ≤ _
      rw [ByteArray.size_extract]
      omega
    · exact Nat.le_refl _
theorem all_of (t : ByteArray) : t.extract 0 t.size = t := by
  apply ByteArray.ext
  simp
theorem nil_app (t : ByteArray) : (⟨#[]⟩ : ByteArray) ++ t = t := by
  apply ByteArray.ext
  simp
theorem cut_s (p : Int) (t : ByteArray) (w : World) (hp : p ≤ 1000000) (ht : t.size ≤ 3000) : Calls Try.prog 65 #[.int .i64 p, .string t] w fun e w' => e = .returned (.tuple #[.string (cutV p t).1, .int .i64 (cutV p t).2.1, .int .i64 (cutV p t).2.2]) ∧ w = w' := by
  by_cases h0 : p < 0
  · have hd : decide (p < 0) = true := decide_eq_true h0
    rw [cutV_free h0]
    clear h0
    go_enter Try.func65, Try.ntmps65
    go_wp2
    exact bodyPost_ret (v := .tuple #[.string t, .int .i64 p, .int .i64 0]) (by simp [results, Try.results65, go_sem, *]) rfl ⟨rfl, rfl⟩
  have hd : decide (p < 0) = false := decide_eq_false h0
  by_cases h1 : p < t.size
  · have hd1 : decide (p < (t.size : Int)) = true := decide_eq_true h1
    have hcut := fun w => run_slice_string_h (P := Try.prog) w 9 t Try.underlying9 .i64 p (by omega) (by omega)
    rw [cutV_cut (by omega) h1]
    clear h0 h1
    go_enter Try.func65, Try.ntmps65
    go_wp2
    exact bodyPost_ret (v := .tuple #[.string (t.extract 0 p.toNat), .int .i64 0, .int .i64 12]) (by simp [results, Try.results65, go_sem, *]) rfl ⟨rfl, rfl⟩
  · have hd1 : decide (p < (t.size : Int)) = false := decide_eq_false h1
    have hwr : IntKind.i64.wrap (p - (t.size : Int)) = p - (t.size : Int) := IntWalk.i64_in _ (by omega)
    rw [cutV_whole (by omega) h1]
    clear h0 h1
    go_enter Try.func65, Try.ntmps65
    go_wp2
    exact bodyPost_ret (v := .tuple #[.string t, .int .i64 (p - t.size), .int .i64 0]) (by simp [results, Try.results65, go_sem, *]) rfl ⟨rfl, rfl⟩
theorem slot_yes (g o : Nat) (w : World) : Calls Try.prog 69 #[.pointer (some ⟨g, o, none⟩), .bool true] w fun e w' => e = .returned (.pointer (some ⟨g, o + 1, none⟩)) ∧ w = w' := by
  go_enter Try.func69, Try.ntmps69
  go_wp2
  go_ret
  exact ⟨rfl, rfl⟩
theorem slot_no (g o : Nat) (w : World) : Calls Try.prog 69 #[.pointer (some ⟨g, o, none⟩), .bool false] w fun e w' => e = .returned (.pointer (some ⟨g, o + 0, none⟩)) ∧ w = w' := by
  go_enter Try.func69, Try.ntmps69
  go_wp2
  go_ret
  exact ⟨rfl, rfl⟩
theorem enc_at {w : World} {g ca k j : Nat} {L : List D_Region} {x : D_Region} {s : ByteArray} (h : OwnG w g L ca) (hx : L[k]? = some x) (hj : j < 3) (hs : (encG x)[j]? = some (.string s)) : w.cell? ⟨g, k * 3 + j, none⟩ = some (.string s) := by
  obtain ⟨e0, e1, e2⟩ := (h.cells hx).1
  match j, hj, hs with
  | 0, _, hs => simp [encG] at hs; subst hs; exact e0
  | 1, _, hs => simp [encG] at hs; subst hs; exact e1
  | 2, _, hs => simp [encG] at hs; subst hs; exact e2
/-- write's answer -/
def WriteO (c : Int) (n : Nat) (L : List D_Region) (p : Int) (G g ca k : Nat) (w : World) (e : Ending) (w' : World) : Prop := (c = 0 ∧ e = .returned (.tuple #[]) ∨ c = 12 ∧ e = .panicked (pErr 12)) ∧ WrP n L p G g ca k w' ∧ Off (fun q => q = G ∨ q = g) w w'
theorem writeO_elim {c : Int} {n : Nat} {L : List D_Region} {p : Int} {G g ca k : Nat} {w : World} {e : Ending} {w' : World} (h : WriteO c n L p G g ca k w e w') : (c = 0 ∧ e = .returned (.tuple #[]) ∨ c = 12 ∧ e = .panicked (pErr 12)) ∧ WrP n L p G g ca k w' ∧ Off (fun q => q = G ∨ q = g) w w' := h
set_option maxHeartbeats 1600000 in
theorem write_i {n : Nat} {L : List D_Region} {p : Int} {G g ca k j : Nat} {x y : D_Region} {w : World} {s t : ByteArray} (h : WrP n L p G g ca k w) (hx : L[k]? = some x) (hne : G ≠ g) (hj : j < 3) (hs : (encG x)[j]? = some (.string s)) (ht : t.size ≤ 3000) (hss : s.size ≤ 3000) (hp : -1 ≤ p ∧ p ≤ 1000000)
    (hy : encG y = (encG x).set j (.string (s ++ (cutV p t).1))) (hz : y.1.size ≤ maxLen ∧ y.2.1.size ≤ maxLen ∧ y.2.2.size ≤ maxLen) :
    Calls Try.prog 70 #[.pointer (some ⟨G, 0, none⟩), .pointer (some ⟨g, k * 3 + j, none⟩), .string t] w (WriteO (cutV p t).2.2 n (L.set k y) (cutV p t).2.1 G g ca k w) := by
  obtain ⟨c0, c1, c2⟩ := h.cells
  have fG := h.1.soft 1
  have H := Lib.hid h
  clear h
  by_cases hp1 : p = -1
  · subst hp1
    rw [cutV_free (show (-1 : Int) < 0 by omega)] at hy ⊢
    have hcut : ∀ w, (Instr.slice 9 (.string t) none (some (.int .i64 (t.size : Int))) none).run Try.prog w = .ok (.string t) w := fun w => by rw [run_slice_string_h w 9 t Try.underlying9 .i64 (t.size : Int) (by omega) (by omega), Int.toNat_natCast, all_of]
    obtain ⟨w1, hw1⟩ : ∃ u, u = w := ⟨_, rfl⟩
    have hO1 : Off (fun q => q = G) w w1 := by rw [hw1]; exact Off.refl _ _
    have hW1 : WrP n L (-1) G g ca k w1 := by rw [hw1]; exact H.out
    have HO1 := Lib.hid hO1
    have HW1 := Lib.hid hW1
    have HX1 := Lib.hid hx
    have E1 := Lib.hid (enc_at hW1.2 hx hj hs)
    have F1 := Lib.hid ((hW1.2.cells hx).2.1 (k * 3 + j))
    have HGL := Lib.hid (hW1.2.lt (Nat.lt_of_le_of_lt (Nat.zero_le k) (List.getElem?_eq_some_iff.1 hx).1))
    have HY := Lib.hid hy
    have HZ := Lib.hid hz
    have HNE := Lib.hid hne
    clear hO1 hW1 hx hs hy hz hne
    go_enter Try.func70, Try.ntmps70
    go_upto_region 4 with fail
    rw [← hw1]
    clear hw1 c0 c1 c2 fG
    refine kregion [9] (S := (fun V => Below w1.heap.size w1 V)) (by kernel_rfl) ((Below.refl _ _).drew) (fun hHeld => ?_)
    refine kp 0 ?_
    refine kp 1 ?_
    refine kp 2 ?_
    refine kk 3 hHeld ?_ (hy := fun w hSw => by (try dsimp only at hSw); have k0 := (hSw.cell (p := ⟨g, k * 3 + j, none⟩) HGL.out).trans E1.out; clear hSw; go_simp; try with_reducible rfl)
    refine kp 4 ?_
    refine kp 5 ?_
    refine kp 6 ?_
    refine kr (rs := [7]) (by kernel_rfl) (by simp) (AllK.cons rfl (fun K hK => ?_) AllK.nil)
    go_simp
    go_at_call 45
    refine (JoinC.joined_any s t _ (by omega)).mono ?_
    rintro e v8 ⟨rfl, hb⟩
    have hbv := hHeld.trans (hb.mono hHeld.size)
    have HBV := Lib.hid hbv
    refine hK.out _ _ hbv (fun hHeld => ?_)
    clear hK K hb hbv
    refine kp 8 ?_
    refine kr (rs := [9]) (by kernel_rfl) (by simp) (AllK.last (by simp) rfl (fun K hK => ?_))
    have ev := (HBV.out.cell (p := ⟨g, k * 3 + j, none⟩) HGL.out).trans E1.out
    have fv := (HBV.out.frozen (p := ⟨g, k * 3 + j, none⟩) HGL.out).trans F1.out
    go_simp
    refine hK.out _ _ ?_
    clear hK K ev fv
    refine k0 ?_
    have HP := Lib.hid (WrP.put (j := j) (y := y) (s := s ++ t) (show WrP n L (-1) G g ca k v8 from ⟨HW1.out.1.call HBV.out, HW1.out.2.keep (HBV.out.block g HGL.out)⟩) HX1.out HNE.out hj HY.out HZ.out)
    have HF := Lib.hid (((HO1.out.of_below HBV.out).more (T := fun q => q = G ∨ q = g) (fun q h => .inl h)).trans (HP.out.2.more (fun q h => .inr h)))
    clear hHeld
    go_wp2_with fail
    refine (must_yes 12 _).mono ?_
    rintro e w9 ⟨rfl, rfl⟩
    go_wp2
    go_end0
    exact ⟨.inl ⟨rfl, rfl⟩, HP.out.1, HF.out⟩
  have hpb : (p != -1) = true := by simpa using hp1
  by_cases hc : p < t.size
  · rw [cutV_cut (by omega) hc] at hy ⊢
    obtain ⟨u, hu⟩ : ∃ u, u = t.extract 0 p.toNat := ⟨_, rfl⟩
    have hul : u.size ≤ 3000 := by rw [hu, ByteArray.size_extract]; omega
    have hcut : ∀ w, (Instr.slice 9 (.string t) none (some (.int .i64 p)) none).run Try.prog w = .ok (.string u) w := fun w => by rw [hu]; exact run_slice_string_h w 9 t Try.underlying9 .i64 p (by omega) (by omega)
    rw [← hu] at hy
    clear hu
    have hmin : min (t.size : Int) p = p := by omega
    have heq : (p == (t.size : Int)) = false := by simp; omega
    have hsub : p - p = 0 := by omega
    obtain ⟨w1, hw1⟩ : ∃ u, u = w.setCell ⟨G, 1, none⟩ (.int .i64 (0)) := ⟨_, rfl⟩
    have hO1 : Off (fun q => q = G) w w1 := by rw [hw1]; exact (Off.refl (fun q => q = G) _).setCell (p := ⟨G, 1, none⟩) rfl _
    have hW1 : WrP n L (0) G g ca k w1 := by rw [hw1]; exact ⟨(H.out.1.set 1 _).as rfl, H.out.2.keep (Below.heap_setCell _ _ _ _ (Ne.symm hne))⟩
    have HO1 := Lib.hid hO1
    have HW1 := Lib.hid hW1
    have HX1 := Lib.hid hx
    have E1 := Lib.hid (enc_at hW1.2 hx hj hs)
    have F1 := Lib.hid ((hW1.2.cells hx).2.1 (k * 3 + j))
    have HGL := Lib.hid (hW1.2.lt (Nat.lt_of_le_of_lt (Nat.zero_le k) (List.getElem?_eq_some_iff.1 hx).1))
    have HY := Lib.hid hy
    have HZ := Lib.hid hz
    have HNE := Lib.hid hne
    clear hO1 hW1 hx hs hy hz hne
    go_enter Try.func70, Try.ntmps70
    go_upto_region 4 with fail
    rw [← hw1]
    clear hw1 c0 c1 c2 fG
    refine kregion [9] (S := (fun V => Below w1.heap.size w1 V)) (by kernel_rfl) ((Below.refl _ _).drew) (fun hHeld => ?_)
    refine kp 0 ?_
    refine kp 1 ?_
    refine kp 2 ?_
    refine kk 3 hHeld ?_ (hy := fun w hSw => by (try dsimp only at hSw); have k0 := (hSw.cell (p := ⟨g, k * 3 + j, none⟩) HGL.out).trans E1.out; clear hSw; go_simp; try with_reducible rfl)
    refine kp 4 ?_
    refine kp 5 ?_
    refine kp 6 ?_
    refine kr (rs := [7]) (by kernel_rfl) (by simp) (AllK.cons rfl (fun K hK => ?_) AllK.nil)
    go_simp
    go_at_call 45
    refine (JoinC.joined_any s u _ (by omega)).mono ?_
    rintro e v8 ⟨rfl, hb⟩
    have hbv := hHeld.trans (hb.mono hHeld.size)
    have HBV := Lib.hid hbv
    refine hK.out _ _ hbv (fun hHeld => ?_)
    clear hK K hb hbv
    refine kp 8 ?_
    refine kr (rs := [9]) (by kernel_rfl) (by simp) (AllK.last (by simp) rfl (fun K hK => ?_))
    have ev := (HBV.out.cell (p := ⟨g, k * 3 + j, none⟩) HGL.out).trans E1.out
    have fv := (HBV.out.frozen (p := ⟨g, k * 3 + j, none⟩) HGL.out).trans F1.out
    go_simp
    refine hK.out _ _ ?_
    clear hK K ev fv
    refine k0 ?_
    have HP := Lib.hid (WrP.put (j := j) (y := y) (s := s ++ u) (show WrP n L (0) G g ca k v8 from ⟨HW1.out.1.call HBV.out, HW1.out.2.keep (HBV.out.block g HGL.out)⟩) HX1.out HNE.out hj HY.out HZ.out)
    have HF := Lib.hid (((HO1.out.of_below HBV.out).more (T := fun q => q = G ∨ q = g) (fun q h => .inl h)).trans (HP.out.2.more (fun q h => .inr h)))
    clear hHeld
    go_wp2_with fail
    refine (must_no 12 _).mono ?_
    rintro e w9 ⟨rfl, rfl⟩
    go_wp2
    exact ⟨rfl, .inr ⟨rfl, rfl⟩, HP.out.1, HF.out⟩
  · rw [cutV_whole (by omega) hc] at hy ⊢
    have hcut : ∀ w, (Instr.slice 9 (.string t) none (some (.int .i64 (t.size : Int))) none).run Try.prog w = .ok (.string t) w := fun w => by rw [run_slice_string_h w 9 t Try.underlying9 .i64 (t.size : Int) (by omega) (by omega), Int.toNat_natCast, all_of]
    have hmin : min (t.size : Int) p = (t.size : Int) := by omega
    have hwr : IntKind.i64.wrap (p - (t.size : Int)) = p - (t.size : Int) := IntWalk.i64_in _ (by omega)
    obtain ⟨w1, hw1⟩ : ∃ u, u = w.setCell ⟨G, 1, none⟩ (.int .i64 (p - (t.size : Int))) := ⟨_, rfl⟩
    have hO1 : Off (fun q => q = G) w w1 := by rw [hw1]; exact (Off.refl (fun q => q = G) _).setCell (p := ⟨G, 1, none⟩) rfl _
    have hW1 : WrP n L (p - (t.size : Int)) G g ca k w1 := by rw [hw1]; exact ⟨(H.out.1.set 1 _).as rfl, H.out.2.keep (Below.heap_setCell _ _ _ _ (Ne.symm hne))⟩
    have HO1 := Lib.hid hO1
    have HW1 := Lib.hid hW1
    have HX1 := Lib.hid hx
    have E1 := Lib.hid (enc_at hW1.2 hx hj hs)
    have F1 := Lib.hid ((hW1.2.cells hx).2.1 (k * 3 + j))
    have HGL := Lib.hid (hW1.2.lt (Nat.lt_of_le_of_lt (Nat.zero_le k) (List.getElem?_eq_some_iff.1 hx).1))
    have HY := Lib.hid hy
    have HZ := Lib.hid hz
    have HNE := Lib.hid hne
    clear hO1 hW1 hx hs hy hz hne
    go_enter Try.func70, Try.ntmps70
    go_upto_region 4 with fail
    rw [← hw1]
    clear hw1 c0 c1 c2 fG
    refine kregion [9] (S := (fun V => Below w1.heap.size w1 V)) (by kernel_rfl) ((Below.refl _ _).drew) (fun hHeld => ?_)
    refine kp 0 ?_
    refine kp 1 ?_
    refine kp 2 ?_
    refine kk 3 hHeld ?_ (hy := fun w hSw => by (try dsimp only at hSw); have k0 := (hSw.cell (p := ⟨g, k * 3 + j, none⟩) HGL.out).trans E1.out; clear hSw; go_simp; try with_reducible rfl)
    refine kp 4 ?_
    refine kp 5 ?_
    refine kp 6 ?_
    refine kr (rs := [7]) (by kernel_rfl) (by simp) (AllK.cons rfl (fun K hK => ?_) AllK.nil)
    go_simp
    go_at_call 45
    refine (JoinC.joined_any s t _ (by omega)).mono ?_
    rintro e v8 ⟨rfl, hb⟩
    have hbv := hHeld.trans (hb.mono hHeld.size)
    have HBV := Lib.hid hbv
    refine hK.out _ _ hbv (fun hHeld => ?_)
    clear hK K hb hbv
    refine kp 8 ?_
    refine kr (rs := [9]) (by kernel_rfl) (by simp) (AllK.last (by simp) rfl (fun K hK => ?_))
    have ev := (HBV.out.cell (p := ⟨g, k * 3 + j, none⟩) HGL.out).trans E1.out
    have fv := (HBV.out.frozen (p := ⟨g, k * 3 + j, none⟩) HGL.out).trans F1.out
    go_simp
    refine hK.out _ _ ?_
    clear hK K ev fv
    refine k0 ?_
    have HP := Lib.hid (WrP.put (j := j) (y := y) (s := s ++ t) (show WrP n L (p - (t.size : Int)) G g ca k v8 from ⟨HW1.out.1.call HBV.out, HW1.out.2.keep (HBV.out.block g HGL.out)⟩) HX1.out HNE.out hj HY.out HZ.out)
    have HF := Lib.hid (((HO1.out.of_below HBV.out).more (T := fun q => q = G ∨ q = g) (fun q h => .inl h)).trans (HP.out.2.more (fun q h => .inr h)))
    clear hHeld
    go_wp2_with fail
    refine (must_yes 12 _).mono ?_
    rintro e w9 ⟨rfl, rfl⟩
    go_wp2
    go_end0
    exact ⟨.inl ⟨rfl, rfl⟩, HP.out.1, HF.out⟩
end Go.Proofs.Ytdedomfocljhaaa.ChC
