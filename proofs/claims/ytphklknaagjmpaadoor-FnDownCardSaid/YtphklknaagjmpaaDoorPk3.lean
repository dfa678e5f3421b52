/- Of this claim's texts the part 3: DkJ DkK DkL DkM DkN LetG FlatC. -/
import Derived.Test.YtphklknaagjmpaaDoorPk2
section
namespace Go.Proofs.YtphklknaagjmpaaDoor.RepC
open Go.RowKit RowC ValC SpanC KeptC
set_option linter.unusedVariables false
set_option linter.unusedSimpArgs false
set_option maxRecDepth 100000 in
set_option maxHeartbeats 3200000 in
theorem words_impl {L : List D_Letter} {la : Option Addr} {lc : Nat} {W : World} (hn : L.length ≤ 1073741824) (hL : RdSl R_Letter W W.heap.size L la lc) :
    Calls Tryd.prog 46 #[.slice la L.length lc] W (NewS I (L.map fun x => x.2.2.2) W) := by
  have H := Lib.hid hL
  clear hL
  go_enter Tryd.func46, Tryd.ntmps46
  go_wp2
  go_loopw [3, 8] (fun o i wr => ∃ k : Nat, k ≤ L.length ∧ i = .int .i64 k ∧ (∃ a c xs Sf hi, o = .slice a ((L.take k).map fun x => x.2.2.2).length c ∧ W.heap.size ≤ hi ∧ App I wr W.heap.size hi 2 (.slice a ((L.take k).map fun x => x.2.2.2).length c) ((L.take k).map fun x => x.2.2.2) xs Sf) ∧ Below W.heap.size W wr) (fun _ i _ => L.length - (intOf i).toNat)
  case atStart => exact ⟨0, Nat.zero_le _, rfl, ⟨none, 0, _, _, _, rfl, Nat.le_refl _, App.none_ I W 2 (Nat.le_refl _)⟩, Below.refl _ _⟩
  case round =>
    obtain ⟨k, hk, rfl, ⟨oa, oc, xs, Sf, hi, rfl, hlo, hO⟩, hB⟩ := hrel
    have HB := Lib.hid hB
    have HO := Lib.hid hO
    have hsz := hB.size
    by_cases hlt : k < L.length
    · obtain ⟨⟨⟨x0, x1⟩, ⟨x2, x3⟩, x4, x5⟩, hx⟩ := el_some hlt
      have Hhx := Lib.hid hx
      obtain ⟨g, o, us, rfl, hgg, hu, hr⟩ := (H.out.below R_Letter_ok hB).at_ hx
      obtain rfl := rd_Letter hr
      have e0 : wr.cell? ⟨g, o + k * 6, none⟩ = some (.int .i64 x0) := by simpa [size_LetterS, Nat.add_assoc] using hu 0 _ rfl
      have e1 : wr.cell? ⟨g, o + k * 6 + 1, none⟩ = some (.int .i64 x1) := by simpa [size_LetterS, Nat.add_assoc] using hu 1 _ rfl
      have e2 : wr.cell? ⟨g, o + k * 6 + 2, none⟩ = some (.int .i64 x2) := by simpa [size_LetterS, Nat.add_assoc] using hu 2 _ rfl
      have e3 : wr.cell? ⟨g, o + k * 6 + 3, none⟩ = some (.int .i64 x3) := by simpa [size_LetterS, Nat.add_assoc] using hu 3 _ rfl
      have e4 : wr.cell? ⟨g, o + k * 6 + 4, none⟩ = some (.int .i64 x4) := by simpa [size_LetterS, Nat.add_assoc] using hu 4 _ rfl
      have e5 : wr.cell? ⟨g, o + k * 6 + 5, none⟩ = some (.int .i64 x5) := by simpa [size_LetterS, Nat.add_assoc] using hu 5 _ rfl
      have hgl : g < wr.heap.size := Nat.lt_of_lt_of_le hgg hsz
      have hi0 : (0 : Int) ≤ (k : Int) := Int.natCast_nonneg _
      have hi1 : (k : Int) < (L.length : Int) := by omega
      have HE := Lib.hid (show ((L.take (k + 1)).map fun x => x.2.2.2) = ((L.take k).map fun x => x.2.2.2) ++ [x5] from by rw [List.take_add_one, Hhx.out]; simp)
      have hfl : ((L.take k).map fun x => x.2.2.2).length ≤ k := by rw [List.length_map, List.length_take]; omega
      clear hB hx hu hr hO
      obtain ⟨M, hM⟩ : ∃ M, ((L.take k).map fun x => x.2.2.2) = M := ⟨_, rfl⟩
      rw [hM] at HO HE hfl ⊢
      clear hM
      have hb1 : Below wr.heap.size wr (wr.alloc (.cells #[.int .i64 x0, .int .i64 x1, .int .i64 x2, .int .i64 x3, .int .i64 x4, .int .i64 x5] 48)) := (Below.refl _ _).alloc (Nat.le_refl _) _
      have hB1 := HB.out.trans (hb1.mono hsz)
      have hO1 := HO.out.call I_ok hb1
      obtain ⟨na, nc, w2, xs2, Sf2, hr, hA2, hb2⟩ := app_int hO1 x5 hlo (by omega)
      simp only [World.size_alloc] at hr
      have HR := Lib.hid hr
      have HA2 := Lib.hid hA2
      have HB2 := Lib.hid (hB1.trans hb2)
      have hz2 := HB2.out.size
      clear hr hA2 hb2 hb1 hB1 hO1
      go_wp2_with (at_builtin; refine wpList_app rfl (.tmp 12) (.tmp 15) 39 rfl rfl rfl HR.out ?_)
      go_roundw
      case rel => exact ⟨k + 1, by omega, by go_num, by rw [HE.out]; exact ⟨na, nc, xs2, Sf2, _, by simp, hz2, HA2.out⟩, HB2.out⟩
      case measure => simp [intOf]; omega
    · obtain rfl : k = L.length := by omega
      have hd : decide ((L.length : Int) < (L.length : Int)) = false := decide_eq_false (by omega)
      have HE := Lib.hid (show ((L.take L.length).map fun x => x.2.2.2) = (L.map fun x => x.2.2.2) from by rw [List.take_length])
      rw [HE.out] at HO ⊢
      clear hB hO HE
      go_wp2
      go_ret
      exact HO.out.new_ HB.out
theorem has_filter {P : List D_Letter} {f t : D_Label} : 0 < (P.filter fun x => x.1 == f && x.2.1 == t).length ↔ HasCh P f t := by
  rw [List.length_pos_iff_exists_mem]
  constructor
  · rintro ⟨x, hx⟩
    obtain ⟨h1, h2⟩ := List.mem_filter.1 hx
    simp only [Bool.and_eq_true, beq_iff_eq] at h2
    exact ⟨x, h1, h2⟩
  · rintro ⟨x, h1, h2, h3⟩
    exact ⟨x, List.mem_filter.2 ⟨h1, by simp [h2, h3]⟩⟩
theorem cnt_filter (n : Int) : ∀ A : List D_Letter, (A.filter fun x => x.2.2.1 == n).length = cntAt n A
  | [] => rfl
  | x :: xs => by
    have := cnt_filter n xs
    simp only [cntAt, List.filter_cons]
    by_cases h : x.2.2.1 = n
    · simp [h, this]; omega
    · simp [h, this]
def IsV (v : Value) (w : World) (e : Ending) (w' : World) : Prop := e = .returned v ∧ Below w.heap.size w w'
set_option maxRecDepth 100000 in
set_option maxHeartbeats 1600000 in
theorem answer_chan {P B A : List D_Letter} {pa ba aa : Option Addr} {pc bc ac : Nat} {u n : Int} {W : World} (hP4 : P.length ≤ 4) (hP : RdSl R_Letter W W.heap.size P pa pc) {f0 f1 t0 t1 : Int} {b : Bool} (hb : b = true ↔ HasCh P (f0, f1) (t0, t1)) :
    Calls Tryd.prog 30 #[.agg #[.slice pa P.length pc, .slice ba B.length bc, .slice aa A.length ac, .int .i64 u, .int .i64 n], .iface 80 (.agg #[.int .i64 f0, .int .i64 f1, .int .i64 t0, .int .i64 t1])] W (IsV (.iface 4 (.bool b)) W) := by
  obtain ⟨hb0, hp0⟩ := bx1 W #[.slice pa P.length pc, .slice ba B.length bc, .slice aa A.length ac, .int .i64 u, .int .i64 n] 25
  have HB0 := Lib.hid hb0
  have HZ := hb0.size
  have HPw := Lib.hid (gmvS hP hb0)
  have HD := Lib.hid hp0
  have d0 := hp0.at_ 0 rfl
  clear hb0 hp0 hP
  have a1 : ∀ W, (Instr.typeAssert (.iface 80 (.agg #[.int .i64 f0, .int .i64 f1, .int .i64 t0, .int .i64 t1])) 78 80 true).run Tryd.prog W = .ok (.tuple #[.agg #[.int .i64 f0, .int .i64 f1, .int .i64 t0, .int .i64 t1], .bool true]) W := fun W => by kernel_rfl
  have HL := Lib.hid (show decide (0 < (P.filter fun x => x.1 == (f0, f1) && x.2.1 == (t0, t1)).length) = b from by
    rw [Bool.eq_iff_iff, hb, ← has_filter, decide_eq_true_iff])
  clear hb
  go_enter Tryd.func30, Tryd.ntmps30
  go_wp2_with fail
  refine (picked_impl (by omega) (picks_chan f0 f1 t0 t1) HPw.out).mono ?_
  intro e w1 h
  obtain ⟨ra, rc, rfl, ho, hb⟩ := newS_elim h
  have HB1 := Lib.hid (HB0.out.trans (hb.mono HZ))
  clear h ho hb
  obtain ⟨m, hm⟩ : ∃ m : Nat, (P.filter fun x => x.1 == (f0, f1) && x.2.1 == (t0, t1)).length = m := ⟨_, rfl⟩
  have hl := HL.out
  rw [hm] at hl ⊢
  have HLL := Lib.hid hl
  clear hm HL hl
  go_wp2
  go_ret
  exact ⟨by rw [← HLL.out]; rfl, HB1.out⟩
set_option maxRecDepth 100000 in
set_option maxHeartbeats 1600000 in
theorem answer_used {P B A : List D_Letter} {pa ba aa : Option Addr} {pc bc ac : Nat} {u n : Int} {W : World} {t : Int} (hA4 : A.length ≤ 20) (hA : RdSl R_Letter W W.heap.size A aa ac) :
    Calls Tryd.prog 30 #[.agg #[.slice pa P.length pc, .slice ba B.length bc, .slice aa A.length ac, .int .i64 u, .int .i64 n], .iface 83 (.agg #[.int .i64 t])] W (IsV (.iface 2 (.int .i64 (cntAt t A : Nat))) W) := by
  obtain ⟨hb0, hp0⟩ := bx1 W #[.slice pa P.length pc, .slice ba B.length bc, .slice aa A.length ac, .int .i64 u, .int .i64 n] 25
  have HB0 := Lib.hid hb0
  have HZ := hb0.size
  have HAw := Lib.hid (gmvS hA hb0)
  have d2 := hp0.at_ 2 rfl
  clear hb0 hp0 hA
  have a1 : ∀ W, (Instr.typeAssert (.iface 83 (.agg #[.int .i64 t])) 78 80 true).run Tryd.prog W = .ok (.tuple #[.agg #[.int .i64 0, .int .i64 0, .int .i64 0, .int .i64 0], .bool false]) W := fun W => by kernel_rfl
  have a2 : ∀ W, (Instr.typeAssert (.iface 83 (.agg #[.int .i64 t])) 78 83 true).run Tryd.prog W = .ok (.tuple #[.agg #[.int .i64 t], .bool true]) W := fun W => by kernel_rfl
  have HL := Lib.hid (cnt_filter t A)
  go_enter Tryd.func30, Tryd.ntmps30
  go_wp2_with fail
  refine (picked_impl (by omega) (picks_at t) HAw.out).mono ?_
  intro e w1 h
  obtain ⟨ra, rc, rfl, ho, hb⟩ := newS_elim h
  have HB1 := Lib.hid (HB0.out.trans (hb.mono HZ))
  clear h ho hb
  rw [HL.out]
  clear HL
  go_wp2
  go_ret
  exact ⟨rfl, HB1.out⟩
def NewI (L : List Int) (w : World) (e : Ending) (w' : World) : Prop := ∃ a c, e = .returned (.iface 39 (.slice a L.length c)) ∧ OwSl I w' (Rg w.heap.size w'.heap.size) L a c ∧ Below w.heap.size w w'
theorem newI_elim {L : List Int} {w : World} {e : Ending} {w' : World} (h : NewI L w e w') : ∃ a c, e = .returned (.iface 39 (.slice a L.length c)) ∧ OwSl I w' (Rg w.heap.size w'.heap.size) L a c ∧ Below w.heap.size w w' := h
set_option maxRecDepth 100000 in
set_option maxHeartbeats 1600000 in
theorem answer_read {P B A : List D_Letter} {pa ba aa : Option Addr} {pc bc ac : Nat} {u n : Int} {W : World} {l s : Int} (hB4 : B.length ≤ 6) (hB : RdSl R_Letter W W.heap.size B ba bc) :
    Calls Tryd.prog 30 #[.agg #[.slice pa P.length pc, .slice ba B.length bc, .slice aa A.length ac, .int .i64 u, .int .i64 n], .iface 65 (.agg #[.int .i64 l, .int .i64 s])] W (NewI ((B.filter fun x => LabC.belowB x.2.1.1 x.2.1.2 l s).map fun x => x.2.2.2) W) := by
  obtain ⟨hb0, hp0⟩ := bx1 W #[.slice pa P.length pc, .slice ba B.length bc, .slice aa A.length ac, .int .i64 u, .int .i64 n] 25
  have HB0 := Lib.hid hb0
  have HZ := hb0.size
  have HBw := Lib.hid (gmvS hB hb0)
  have d1 := hp0.at_ 1 rfl
  clear hb0 hp0 hB
  have a1 : ∀ W, (Instr.typeAssert (.iface 65 (.agg #[.int .i64 l, .int .i64 s])) 78 80 true).run Tryd.prog W = .ok (.tuple #[.agg #[.int .i64 0, .int .i64 0, .int .i64 0, .int .i64 0], .bool false]) W := fun W => by kernel_rfl
  have a2 : ∀ W, (Instr.typeAssert (.iface 65 (.agg #[.int .i64 l, .int .i64 s])) 78 83 true).run Tryd.prog W = .ok (.tuple #[.agg #[.int .i64 0], .bool false]) W := fun W => by kernel_rfl
  have a3 : ∀ W, (Instr.typeAssert (.iface 65 (.agg #[.int .i64 l, .int .i64 s])) 78 65 true).run Tryd.prog W = .ok (.tuple #[.agg #[.int .i64 l, .int .i64 s], .bool true]) W := fun W => by kernel_rfl
  have hf : (B.filter fun x => LabC.belowB x.2.1.1 x.2.1.2 l s).length ≤ 6 := Nat.le_trans (List.length_filter_le _ _) hB4
  go_enter Tryd.func30, Tryd.ntmps30
  go_wp2_with fail
  refine (picked_impl (by omega) (picks_read l s) HBw.out).mono ?_
  intro e w1 h
  obtain ⟨ra, rc, rfl, ho, hb⟩ := newS_elim h
  have HB1 := Lib.hid (HB0.out.trans (hb.mono HZ))
  have HM := Lib.hid (ho.rd R_Letter_ok fun k hk => hk.2)
  have hz1 := HB1.out.size
  clear h ho hb
  obtain ⟨M, hM⟩ : ∃ M, (B.filter fun x => LabC.belowB x.2.1.1 x.2.1.2 l s) = M := ⟨_, rfl⟩
  rw [hM] at hf HM ⊢
  have HMM := Lib.hid hM
  clear hM
  go_wp2_with fail
  refine (words_impl (by omega) HM.out).mono ?_
  intro e w2 h
  obtain ⟨qa, qc, rfl, ho, hb⟩ := newS_elim h
  have HB2 := Lib.hid (HB1.out.trans (hb.mono hz1))
  have HO := Lib.hid (ho.more (T := Rg W.heap.size w2.heap.size) fun k hk => ⟨Nat.le_trans hz1 hk.1, hk.2⟩)
  clear h ho hb
  go_wp2
  go_ret
  rw [HMM.out]
  exact ⟨qa, qc, by simp only [List.length_map]; rfl, HO.out, HB2.out⟩
set_option maxRecDepth 100000 in
set_option maxHeartbeats 1600000 in
theorem chan_impl {P B A : List D_Letter} {pa ba aa : Option Addr} {pc bc ac : Nat} {u n : Int} {W : World} (hP4 : P.length ≤ 4) (hP : RdSl R_Letter W W.heap.size P pa pc) {f0 f1 t0 t1 : Int} {b : Bool} (hb : b = true ↔ HasCh P (f0, f1) (t0, t1)) :
    Calls Tryd.prog 43 #[.agg #[.slice pa P.length pc, .slice ba B.length bc, .slice aa A.length ac, .int .i64 u, .int .i64 n], .agg #[.int .i64 f0, .int .i64 f1], .agg #[.int .i64 t0, .int .i64 t1]] W fun e w' => e = .returned (.bool b) ∧ Below W.heap.size W w' := by
  obtain ⟨hb0, hp0, hf0, ht0⟩ := bx3 W #[.slice pa P.length pc, .slice ba B.length bc, .slice aa A.length ac, .int .i64 u, .int .i64 n] #[.int .i64 f0, .int .i64 f1] #[.int .i64 t0, .int .i64 t1] 25 27 27
  have HB0 := Lib.hid hb0
  have HZ := hb0.size
  have HPw := Lib.hid (gmvS hP hb0)
  have HH := Lib.hid hb
  clear hb0 hp0 hf0 ht0 hP hb
  have a1 : ∀ W, (Instr.typeAssert (.iface 4 (.bool b)) 20 4 true).run Tryd.prog W = .ok (.tuple #[.bool b, .bool true]) W := fun W => by kernel_rfl
  go_enter Tryd.func43, Tryd.ntmps43
  obtain ⟨w0, hw0⟩ : ∃ w, w = ((W.alloc (.cells #[.slice pa P.length pc, .slice ba B.length bc, .slice aa A.length ac, .int .i64 u, .int .i64 n] 25)).alloc (.cells #[.int .i64 f0, .int .i64 f1] 27)).alloc (.cells #[.int .i64 t0, .int .i64 t1] 27) := ⟨_, rfl⟩
  rw [← hw0] at HB0 HZ HPw
  go_wp2_with fail
  rw [← hw0]
  clear hw0
  refine (answer_chan hP4 HPw.out HH.out).mono ?_
  rintro e w1 ⟨rfl, hb⟩
  have HB1 := Lib.hid (HB0.out.trans (hb.mono HZ))
  clear hb
  cases b with
  | false =>
    go_wp2
    go_ret
    exact ⟨rfl, HB1.out⟩
  | true =>
    go_wp2
    go_ret
    exact ⟨rfl, HB1.out⟩
set_option maxRecDepth 100000 in
set_option maxHeartbeats 1600000 in
theorem counts_impl {P B A : List D_Letter} {pa ba aa : Option Addr} {pc bc ac : Nat} {u n : Int} {W : World} (hA4 : A.length ≤ 20) (hA : RdSl R_Letter W W.heap.size A aa ac) {b : Bool} (hb : (u == ((cntAt n A : Nat) : Int)) = b) :
    Calls Tryd.prog 37 #[.agg #[.slice pa P.length pc, .slice ba B.length bc, .slice aa A.length ac, .int .i64 u, .int .i64 n]] W fun e w' => e = .returned (.bool b) ∧ Below W.heap.size W w' := by
  obtain ⟨hb0, hp0⟩ := bx1 W #[.slice pa P.length pc, .slice ba B.length bc, .slice aa A.length ac, .int .i64 u, .int .i64 n] 25
  have HB0 := Lib.hid hb0
  have HZ := hb0.size
  have HAw := Lib.hid (gmvS hA hb0)
  have HD := Lib.hid hp0
  clear hb0 hp0 hA
  obtain ⟨m, hm⟩ : ∃ m : Nat, cntAt n A = m := ⟨_, rfl⟩
  have HM := Lib.hid hm
  rw [hm] at hb
  clear hm
  have a1 : ∀ W, (Instr.typeAssert (.iface 2 (.int .i64 (m : Int))) 20 2 true).run Tryd.prog W = .ok (.tuple #[.int .i64 (m : Int), .bool true]) W := fun W => by kernel_rfl
  go_enter Tryd.func37, Tryd.ntmps37
  obtain ⟨w0, hw0⟩ : ∃ w, w = W.alloc (.cells #[.slice pa P.length pc, .slice ba B.length bc, .slice aa A.length ac, .int .i64 u, .int .i64 n] 25) := ⟨_, rfl⟩
  rw [← hw0] at HB0 HZ HAw HD
  go_wp2_with fail
  rw [← hw0]
  clear hw0
  refine (answer_used hA4 HAw.out).mono ?_
  rintro e w1 ⟨rfl, hb1⟩
  have HB1 := Lib.hid (HB0.out.trans (hb1.mono HZ))
  have HD1 := Lib.hid (HD.out.call hb1)
  have d3 := HD1.out.at_ 3 rfl
  rw [HM.out]
  clear hb1
  go_wp2
  go_ret
  exact ⟨rfl, HB1.out⟩
set_option maxRecDepth 100000 in
set_option maxHeartbeats 3200000 in
theorem audited_impl {P B A : List D_Letter} {pa ba aa : Option Addr} {pc bc ac : Nat} {u n : Int} {W : World} (hB : RdSl R_Letter W W.heap.size B ba bc) (hA : RdSl R_Letter W W.heap.size A aa ac) :
    Calls Tryd.prog 36 #[.agg #[.slice pa P.length pc, .slice ba B.length bc, .slice aa A.length ac, .int .i64 u, .int .i64 n]] W (ResB (∀ x ∈ B, x ∈ A) W) := by
  have hnB : B.length ≤ 9223372036854775807 := by have h1 := hB.1; have h2 := hB.2.1; unfold maxLen at h2; omega
  have H := Lib.hid hB
  have HA := Lib.hid hA
  obtain ⟨hb0, hp0⟩ := bx1 W #[.slice pa P.length pc, .slice ba B.length bc, .slice aa A.length ac, .int .i64 u, .int .i64 n] 25
  have HB0 := Lib.hid hb0
  have HD0 := Lib.hid hp0
  have d1 := hp0.at_ 1 rfl
  clear hb0 hp0 hA hB
  go_enter Tryd.func36, Tryd.ntmps36
  go_wp2
  go_loopw [8] (fun i wr => ∃ k : Nat, k ≤ B.length ∧ i = .int .i64 k ∧ Hid (∀ (j : Nat) (x : D_Letter), j < k → B[j]? = some x → x ∈ A) ∧ Below W.heap.size W wr ∧ Hid (Blk wr (W.heap.size) 25 #[.slice pa P.length pc, .slice ba B.length bc, .slice aa A.length ac, .int .i64 u, .int .i64 n])) (fun i _ => B.length - (intOf i).toNat)
  case atStart => exact ⟨0, Nat.zero_le _, rfl, Lib.hid fun j x h => absurd h (Nat.not_lt_zero _), HB0.out, HD0⟩
  case round =>
    obtain ⟨k, hk, rfl, HIN, hB, HD⟩ := hrel
    have HB := Lib.hid hB
    have hsz := hB.size
    by_cases hlt : k < B.length
    · obtain ⟨⟨⟨x0, x1⟩, ⟨x2, x3⟩, x4, x5⟩, hx⟩ := el_some hlt
      have Hhx := Lib.hid hx
      obtain ⟨g, o, us, rfl, hgg, hu, hr⟩ := (H.out.below R_Letter_ok hB).at_ hx
      obtain rfl := rd_Letter hr
      have e0 : wr.cell? ⟨g, o + k * 6, none⟩ = some (.int .i64 x0) := by simpa [size_LetterS, Nat.add_assoc] using hu 0 _ rfl
      have e1 : wr.cell? ⟨g, o + k * 6 + 1, none⟩ = some (.int .i64 x1) := by simpa [size_LetterS, Nat.add_assoc] using hu 1 _ rfl
      have e2 : wr.cell? ⟨g, o + k * 6 + 2, none⟩ = some (.int .i64 x2) := by simpa [size_LetterS, Nat.add_assoc] using hu 2 _ rfl
      have e3 : wr.cell? ⟨g, o + k * 6 + 3, none⟩ = some (.int .i64 x3) := by simpa [size_LetterS, Nat.add_assoc] using hu 3 _ rfl
      have e4 : wr.cell? ⟨g, o + k * 6 + 4, none⟩ = some (.int .i64 x4) := by simpa [size_LetterS, Nat.add_assoc] using hu 4 _ rfl
      have e5 : wr.cell? ⟨g, o + k * 6 + 5, none⟩ = some (.int .i64 x5) := by simpa [size_LetterS, Nat.add_assoc] using hu 5 _ rfl
      have hgl : g < wr.heap.size := Nat.lt_of_lt_of_le hgg hsz
      have hi0 : (0 : Int) ≤ (k : Int) := Int.natCast_nonneg _
      have hi1 : (k : Int) < (B.length : Int) := by omega
      clear hB hx hu hr
      have HX0 := Lib.hid (show Below wr.heap.size wr (wr.alloc (.cells #[.int .i64 x0, .int .i64 x1, .int .i64 x2, .int .i64 x3, .int .i64 x4, .int .i64 x5] 48)) from (Below.refl _ _).alloc (Nat.le_refl _) _)
      have HXB := Lib.hid (Blk.new wr 48 #[.int .i64 x0, .int .i64 x1, .int .i64 x2, .int .i64 x3, .int .i64 x4, .int .i64 x5])
      have HDX := Lib.hid (HD.out.call HX0.out)
      obtain ⟨wx, hwx⟩ : ∃ w, w = wr.alloc (.cells #[.int .i64 x0, .int .i64 x1, .int .i64 x2, .int .i64 x3, .int .i64 x4, .int .i64 x5] 48) := ⟨_, rfl⟩
      rw [← hwx] at HX0 HXB HDX
      have HBX := Lib.hid (HB.out.trans (HX0.out.mono hsz))
      have hzx := HBX.out.size
      have HAX := Lib.hid ((HA.out.below R_Letter_ok HBX.out).more R_Letter_ok hzx)
      have r2 := (hwx ▸ HDX.out).at_ 2 rfl
      clear r2
      have r2 := HDX.out.at_ 2 rfl
      rw [hwx] at r2
      go_wp2_with fail
      rw [← hwx]
      refine (contains_letter HAX.out).mono ?_
      intro e w1 h
      obtain ⟨q, rfl, hq, hb⟩ := resB_elim h
      have HQ := Lib.hid hq
      have HB1 := Lib.hid (HBX.out.trans (hb.mono hzx))
      have HD1 := Lib.hid (HDX.out.call hb)
      clear h hq hb r2 hwx
      cases q with
      | false =>
        have HN := Lib.hid (show ¬ ∀ x ∈ B, x ∈ A from fun h => by have := HQ.out.2 (h _ (List.mem_of_getElem? Hhx.out)); cases this)
        go_wp2
        go_ret
        exact resB_no HN.out HB1.out
      | true =>
        have HS := Lib.hid (show ∀ (j : Nat) (x : D_Letter), j < k + 1 → B[j]? = some x → x ∈ A from fun j y hj hy => by
          by_cases e : j = k
          · subst e
            have := Hhx.out
            rw [hy] at this
            obtain rfl := Option.some.inj this
            exact HQ.out.1 rfl
          · exact HIN.out j y (by omega) hy)
        go_wp2
        go_roundw
        case rel => exact ⟨k + 1, by omega, by go_num, HS, HB1.out, HD1⟩
        case measure => simp [intOf]; omega
    · have hd : decide ((k : Int) < (B.length : Int)) = false := decide_eq_false (by omega)
      have HALL := Lib.hid (show ∀ x ∈ B, x ∈ A from fun x hx => by
        obtain ⟨j, hj⟩ := List.mem_iff_getElem?.1 hx
        exact HIN.out j x (by have := el_lt hj; omega) hj)
      clear hB
      go_wp2
      go_ret
      exact resB_yes HALL.out HB.out
end Go.Proofs.YtphklknaagjmpaaDoor.RepC
end
section
namespace Go.Proofs.YtphklknaagjmpaaDoor.RepC
open Go.RowKit RowC ValC SpanC KeptC
set_option linter.unusedVariables false
set_option linter.unusedSimpArgs false
theorem ri_at (l s : Int) {b : Bool} (hb : LabC.rB l s = b) (w : World) : Calls Tryd.prog 29 #[.agg #[.int .i64 l, .int .i64 s]] w fun e w' => e = .returned (.bool b) ∧ Below w.heap.size w w' := by
  subst hb; exact LabC.ri_w l s w
theorem contains_at {L : List D_Letter} {la : Option Addr} {lc m : Nat} {y0 y1 y2 y3 y4 y5 : Int} {W : World} {b : Bool} (hm : L.length = m) (hL : RdSl R_Letter W W.heap.size L la lc) (hb : b = true ↔ ((y0, y1), (y2, y3), y4, y5) ∈ L) :
    Calls Tryd.prog 48 #[.slice la m lc, .agg #[.int .i64 y0, .int .i64 y1, .int .i64 y2, .int .i64 y3, .int .i64 y4, .int .i64 y5]] W fun e w' => e = .returned (.bool b) ∧ Below W.heap.size W w' := by
  subst hm
  exact (contains_letter hL).mono fun _ _ => resB_at hb
theorem rd_take {L : List D_Letter} {la : Option Addr} {lc k : Nat} {W : World} {N : Nat} (h : RdSl R_Letter W N L la lc) : RdSl R_Letter W N (L.take k) la lc := by
  obtain ⟨h1, h2, h3⟩ := h
  have hl : (L.take k).length ≤ L.length := by rw [List.length_take]; omega
  refine ⟨by omega, h2, fun hp => ?_⟩
  obtain ⟨g, o, ha, hg, hc⟩ := h3 (by omega)
  refine ⟨g, o, ha, hg, fun i x hx => hc i x ?_⟩
  rw [List.getElem?_take] at hx
  split at hx
  · exact hx
  · cases hx
set_option maxRecDepth 100000 in
set_option maxHeartbeats 4000000 in
theorem channels_impl {P : List D_Letter} {pa : Option Addr} {pc : Nat} {W : World} (hP : RdSl R_Letter W W.heap.size P pa pc) :
    Calls Tryd.prog 34 #[.slice pa P.length pc] W (ResB (PairsR P) W) := by
  have hcap := hP.1
  have hmax : pc ≤ 9223372036854775807 := by have h2 := hP.2.1; unfold maxLen at h2; omega
  have H := Lib.hid hP
  clear hP
  by_cases h4 : P.length ≤ 4
  rotate_left
  · have hd : decide ((P.length : Int) > 4) = true := decide_eq_true (by omega)
    have HN := Lib.hid (show ¬ PairsR P from fun h => h4 h.1)
    go_enter Tryd.func34, Tryd.ntmps34
    go_wp2
    go_ret
    exact resB_no HN.out (Below.refl _ _)
  have hd : decide ((P.length : Int) > 4) = false := decide_eq_false (by omega)
  go_enter Tryd.func34, Tryd.ntmps34
  go_wp2
  go_loopw [10] (fun i wr => ∃ k : Nat, k ≤ P.length ∧ i = .int .i64 k ∧ Hid (∀ (j : Nat) (x : D_Letter), j < k → P[j]? = some x → PairOk P j x) ∧ Below W.heap.size W wr) (fun i _ => P.length - (intOf i).toNat)
  case atStart => exact ⟨0, Nat.zero_le _, rfl, Lib.hid fun j x h => absurd h (Nat.not_lt_zero _), Below.refl _ _⟩
  case round =>
    obtain ⟨k, hk, rfl, HA, hB⟩ := hrel
    have HB := Lib.hid hB
    have hsz := hB.size
    by_cases hlt : k < P.length
    · obtain ⟨⟨⟨x0, x1⟩, ⟨x2, x3⟩, x4, x5⟩, hx⟩ := el_some hlt
      have Hhx := Lib.hid hx
      obtain ⟨g, o, us, rfl, hgg, hu, hr⟩ := (H.out.below R_Letter_ok hB).at_ hx
      obtain rfl := rd_Letter hr
      have e0 : wr.cell? ⟨g, o + k * 6, none⟩ = some (.int .i64 x0) := by simpa [size_LetterS, Nat.add_assoc] using hu 0 _ rfl
      have e1 : wr.cell? ⟨g, o + k * 6 + 1, none⟩ = some (.int .i64 x1) := by simpa [size_LetterS, Nat.add_assoc] using hu 1 _ rfl
      have e2 : wr.cell? ⟨g, o + k * 6 + 2, none⟩ = some (.int .i64 x2) := by simpa [size_LetterS, Nat.add_assoc] using hu 2 _ rfl
      have e3 : wr.cell? ⟨g, o + k * 6 + 3, none⟩ = some (.int .i64 x3) := by simpa [size_LetterS, Nat.add_assoc] using hu 3 _ rfl
      have e4 : wr.cell? ⟨g, o + k * 6 + 4, none⟩ = some (.int .i64 x4) := by simpa [size_LetterS, Nat.add_assoc] using hu 4 _ rfl
      have e5 : wr.cell? ⟨g, o + k * 6 + 5, none⟩ = some (.int .i64 x5) := by simpa [size_LetterS, Nat.add_assoc] using hu 5 _ rfl
      have hgl : g < wr.heap.size := Nat.lt_of_lt_of_le hgg hsz
      have hi0 : (0 : Int) ≤ (k : Int) := Int.natCast_nonneg _
      have hi1 : (k : Int) < (P.length : Int) := by omega
      have hi2 : (k : Int) ≤ (pc : Int) := by omega
      have hkn : k ≤ pc := by omega
      have hkl : (P.take k).length = k := by rw [List.length_take]; omega
      clear hB hx hu hr
      obtain ⟨b1, H1⟩ : ∃ b, Hid (LabC.rB x0 x1 = b) := ⟨_, Lib.hid rfl⟩
      obtain ⟨b2, H2⟩ : ∃ b, Hid (LabC.rB x2 x3 = b) := ⟨_, Lib.hid rfl⟩
      obtain ⟨b3, h3⟩ : ∃ b, (x4 != 0) = b := ⟨_, rfl⟩
      obtain ⟨b4, h4'⟩ : ∃ b, (x5 != 0) = b := ⟨_, rfl⟩
      obtain ⟨b5, H5⟩ := nameB (((x0, x1), (x2, x3), x4, x5) ∈ P.take k)
      have H3 := Lib.hid h3
      have H4 := Lib.hid h4'
      have HX0 := Lib.hid (show Below wr.heap.size wr (wr.alloc (.cells #[.int .i64 x0, .int .i64 x1, .int .i64 x2, .int .i64 x3, .int .i64 x4, .int .i64 x5] 48)) from (Below.refl _ _).alloc (Nat.le_refl _) _)
      have HXB := Lib.hid (Blk.new wr 48 #[.int .i64 x0, .int .i64 x1, .int .i64 x2, .int .i64 x3, .int .i64 x4, .int .i64 x5])
      obtain ⟨wx, hwx⟩ : ∃ w, w = wr.alloc (.cells #[.int .i64 x0, .int .i64 x1, .int .i64 x2, .int .i64 x3, .int .i64 x4, .int .i64 x5] 48) := ⟨_, rfl⟩
      rw [← hwx] at HX0 HXB
      have HBX := Lib.hid (HB.out.trans (HX0.out.mono hsz))
      have hzx := HBX.out.size
      have HPX := Lib.hid (rd_take (k := k) ((H.out.below R_Letter_ok HBX.out).more R_Letter_ok hzx))
      go_wp2_with fail
      rw [← hwx]
      clear hwx
      cases b1 with
      | false =>
        have HN := Lib.hid (show ¬ PairsR P from fun h => by have h1 := h.2 k _ Hhx.out; have h2 := h1.1; rw [show LabC.rB x0 x1 = false from H1.out] at h2; cases h2)
        refine wp_region_held_drew (S := (fun V => Below (wx).heap.size (wx) V)) (by kernel_rfl) ((Below.refl _ _).drew) (fun hHeld => ?_)
        refine tk 0 hHeld ?_
        refine tk 1 hHeld ?_ (hy := fun w hSw => by (try dsimp only at hSw); have k0 := (hSw.cell (p := ⟨wr.heap.size, 0, none⟩) HXB.out.lt).trans (HXB.out.at_ 0 rfl); have k1 := (hSw.cell (p := ⟨wr.heap.size, 1, none⟩) HXB.out.lt).trans (HXB.out.at_ 1 rfl); clear hSw; go_simp; try with_reducible rfl)
        refine rd1 2 (fun K hK => ?_)
        go_simp
        go_at_call 29
        refine (ri_at x0 x1 H1.out _).mono ?_
        rintro e v1 ⟨rfl, hb⟩
        refine hK.out _ _ (hHeld.trans (hb.mono hHeld.size)) (fun hHeld => ?_)
        clear hK K hb
        refine tk 3 hHeld ?_
        refine tk 4 hHeld ?_
        refine tn 5 hHeld ?_
        refine tn 6 hHeld ?_
        refine tn 7 hHeld ?_
        refine tn 8 hHeld ?_
        refine tk 9 hHeld ?_
        refine tk 10 hHeld ?_
        refine tn 11 hHeld ?_
        refine tn 12 hHeld ?_
        refine tn 13 hHeld ?_
        refine tk 14 hHeld ?_
        refine tk 15 hHeld ?_
        refine tn 16 hHeld ?_
        refine tn 17 hHeld ?_
        refine tn 18 hHeld ?_
        refine tk 19 hHeld ?_
        refine tk 20 hHeld ?_
        refine tn 21 hHeld ?_
        refine tn 22 hHeld ?_
        refine tn 23 hHeld ?_
        refine tn 24 hHeld ?_
        refine tn 25 hHeld ?_
        refine tk 26 hHeld ?_
        refine rd0 ?_
        have HF := Lib.hid hHeld
        clear hHeld
        have HB3 := Lib.hid (HBX.out.trans (HF.out.mono hzx))
        clear HF
        go_wp2
        go_ret
        exact resB_no HN.out HB3.out
      | true =>
        cases b2 with
        | false =>
          have HN := Lib.hid (show ¬ PairsR P from fun h => by have h1 := h.2 k _ Hhx.out; have h2 := h1.2.1; rw [show LabC.rB x2 x3 = false from H2.out] at h2; cases h2)
          refine wp_region_held_drew (S := (fun V => Below (wx).heap.size (wx) V)) (by kernel_rfl) ((Below.refl _ _).drew) (fun hHeld => ?_)
          refine tk 0 hHeld ?_
          refine tk 1 hHeld ?_ (hy := fun w hSw => by (try dsimp only at hSw); have k0 := (hSw.cell (p := ⟨wr.heap.size, 0, none⟩) HXB.out.lt).trans (HXB.out.at_ 0 rfl); have k1 := (hSw.cell (p := ⟨wr.heap.size, 1, none⟩) HXB.out.lt).trans (HXB.out.at_ 1 rfl); clear hSw; go_simp; try with_reducible rfl)
          refine rd1 2 (fun K hK => ?_)
          go_simp
          go_at_call 29
          refine (ri_at x0 x1 H1.out _).mono ?_
          rintro e v1 ⟨rfl, hb⟩
          refine hK.out _ _ (hHeld.trans (hb.mono hHeld.size)) (fun hHeld => ?_)
          clear hK K hb
          refine tk 3 hHeld ?_
          refine tk 4 hHeld ?_
          refine tk 5 hHeld ?_
          refine tk 6 hHeld ?_ (hy := fun w hSw => by (try dsimp only at hSw); have k0 := (hSw.cell (p := ⟨wr.heap.size, 2, none⟩) HXB.out.lt).trans (HXB.out.at_ 2 rfl); have k1 := (hSw.cell (p := ⟨wr.heap.size, 3, none⟩) HXB.out.lt).trans (HXB.out.at_ 3 rfl); clear hSw; go_simp; try with_reducible rfl)
          refine rd1 7 (fun K hK => ?_)
          go_simp
          go_at_call 29
          refine (ri_at x2 x3 H2.out _).mono ?_
          rintro e v2 ⟨rfl, hb⟩
          refine hK.out _ _ (hHeld.trans (hb.mono hHeld.size)) (fun hHeld => ?_)
          clear hK K hb
          refine tk 8 hHeld ?_
          refine tk 9 hHeld ?_
          refine tk 10 hHeld ?_
          refine tn 11 hHeld ?_
          refine tn 12 hHeld ?_
          refine tn 13 hHeld ?_
          refine tk 14 hHeld ?_
          refine tk 15 hHeld ?_
          refine tn 16 hHeld ?_
          refine tn 17 hHeld ?_
          refine tn 18 hHeld ?_
          refine tk 19 hHeld ?_
          refine tk 20 hHeld ?_
          refine tn 21 hHeld ?_
          refine tn 22 hHeld ?_
          refine tn 23 hHeld ?_
          refine tn 24 hHeld ?_
          refine tn 25 hHeld ?_
          refine tk 26 hHeld ?_
          refine rd0 ?_
          have HF := Lib.hid hHeld
          clear hHeld
          have HB3 := Lib.hid (HBX.out.trans (HF.out.mono hzx))
          clear HF
          go_wp2
          go_ret
          exact resB_no HN.out HB3.out
        | true =>
          cases b3 with
          | true =>
            have HN := Lib.hid (show ¬ PairsR P from fun h => by have h1 := h.2 k _ Hhx.out; have h2 : x4 = 0 := h1.2.2.1; have h3 := H3.out; subst h2; cases h3)
            refine wp_region_held_drew (S := (fun V => Below (wx).heap.size (wx) V)) (by kernel_rfl) ((Below.refl _ _).drew) (fun hHeld => ?_)
            refine tk 0 hHeld ?_
            refine tk 1 hHeld ?_ (hy := fun w hSw => by (try dsimp only at hSw); have k0 := (hSw.cell (p := ⟨wr.heap.size, 0, none⟩) HXB.out.lt).trans (HXB.out.at_ 0 rfl); have k1 := (hSw.cell (p := ⟨wr.heap.size, 1, none⟩) HXB.out.lt).trans (HXB.out.at_ 1 rfl); clear hSw; go_simp; try with_reducible rfl)
            refine rd1 2 (fun K hK => ?_)
            go_simp
            go_at_call 29
            refine (ri_at x0 x1 H1.out _).mono ?_
            rintro e v1 ⟨rfl, hb⟩
            refine hK.out _ _ (hHeld.trans (hb.mono hHeld.size)) (fun hHeld => ?_)
            clear hK K hb
            refine tk 3 hHeld ?_
            refine tk 4 hHeld ?_
            refine tk 5 hHeld ?_
            refine tk 6 hHeld ?_ (hy := fun w hSw => by (try dsimp only at hSw); have k0 := (hSw.cell (p := ⟨wr.heap.size, 2, none⟩) HXB.out.lt).trans (HXB.out.at_ 2 rfl); have k1 := (hSw.cell (p := ⟨wr.heap.size, 3, none⟩) HXB.out.lt).trans (HXB.out.at_ 3 rfl); clear hSw; go_simp; try with_reducible rfl)
            refine rd1 7 (fun K hK => ?_)
            go_simp
            go_at_call 29
            refine (ri_at x2 x3 H2.out _).mono ?_
            rintro e v2 ⟨rfl, hb⟩
            refine hK.out _ _ (hHeld.trans (hb.mono hHeld.size)) (fun hHeld => ?_)
            clear hK K hb
            refine tk 8 hHeld ?_
            refine tk 9 hHeld ?_
            refine tk 10 hHeld ?_
            refine tk 11 hHeld ?_
            refine tk 12 hHeld ?_ (hy := fun w hSw => by (try dsimp only at hSw); have k0 := (hSw.cell (p := ⟨wr.heap.size, 4, none⟩) HXB.out.lt).trans (HXB.out.at_ 4 rfl); clear hSw; go_simp; try with_reducible rfl)
            refine tk 13 hHeld ?_
            refine tk 14 hHeld ?_
            refine tk 15 hHeld ?_
            refine tn 16 hHeld ?_
            refine tn 17 hHeld ?_
            refine tn 18 hHeld ?_
            refine tk 19 hHeld ?_
            refine tk 20 hHeld ?_
            refine tn 21 hHeld ?_
            refine tn 22 hHeld ?_
            refine tn 23 hHeld ?_
            refine tn 24 hHeld ?_
            refine tn 25 hHeld ?_
            refine tk 26 hHeld ?_
            refine rd0 ?_
            have HF := Lib.hid hHeld
            clear hHeld
            have HB3 := Lib.hid (HBX.out.trans (HF.out.mono hzx))
            clear HF
            go_wp2
            go_ret
            exact resB_no HN.out HB3.out
          | false =>
            cases b4 with
            | true =>
              have HN := Lib.hid (show ¬ PairsR P from fun h => by have h1 := h.2 k _ Hhx.out; have h2 : x5 = 0 := h1.2.2.2.1; have h3 := H4.out; subst h2; cases h3)
              refine wp_region_held_drew (S := (fun V => Below (wx).heap.size (wx) V)) (by kernel_rfl) ((Below.refl _ _).drew) (fun hHeld => ?_)
              refine tk 0 hHeld ?_
              refine tk 1 hHeld ?_ (hy := fun w hSw => by (try dsimp only at hSw); have k0 := (hSw.cell (p := ⟨wr.heap.size, 0, none⟩) HXB.out.lt).trans (HXB.out.at_ 0 rfl); have k1 := (hSw.cell (p := ⟨wr.heap.size, 1, none⟩) HXB.out.lt).trans (HXB.out.at_ 1 rfl); clear hSw; go_simp; try with_reducible rfl)
              refine rd1 2 (fun K hK => ?_)
              go_simp
              go_at_call 29
              refine (ri_at x0 x1 H1.out _).mono ?_
              rintro e v1 ⟨rfl, hb⟩
              refine hK.out _ _ (hHeld.trans (hb.mono hHeld.size)) (fun hHeld => ?_)
              clear hK K hb
              refine tk 3 hHeld ?_
              refine tk 4 hHeld ?_
              refine tk 5 hHeld ?_
              refine tk 6 hHeld ?_ (hy := fun w hSw => by (try dsimp only at hSw); have k0 := (hSw.cell (p := ⟨wr.heap.size, 2, none⟩) HXB.out.lt).trans (HXB.out.at_ 2 rfl); have k1 := (hSw.cell (p := ⟨wr.heap.size, 3, none⟩) HXB.out.lt).trans (HXB.out.at_ 3 rfl); clear hSw; go_simp; try with_reducible rfl)
              refine rd1 7 (fun K hK => ?_)
              go_simp
              go_at_call 29
              refine (ri_at x2 x3 H2.out _).mono ?_
              rintro e v2 ⟨rfl, hb⟩
              refine hK.out _ _ (hHeld.trans (hb.mono hHeld.size)) (fun hHeld => ?_)
              clear hK K hb
              refine tk 8 hHeld ?_
              refine tk 9 hHeld ?_
              refine tk 10 hHeld ?_
              refine tk 11 hHeld ?_
              refine tk 12 hHeld ?_ (hy := fun w hSw => by (try dsimp only at hSw); have k0 := (hSw.cell (p := ⟨wr.heap.size, 4, none⟩) HXB.out.lt).trans (HXB.out.at_ 4 rfl); clear hSw; go_simp; try with_reducible rfl)
              refine tk 13 hHeld ?_
              refine tk 14 hHeld ?_
              refine tk 15 hHeld ?_
              refine tk 16 hHeld ?_
              refine tk 17 hHeld ?_ (hy := fun w hSw => by (try dsimp only at hSw); have k0 := (hSw.cell (p := ⟨wr.heap.size, 5, none⟩) HXB.out.lt).trans (HXB.out.at_ 5 rfl); clear hSw; go_simp; try with_reducible rfl)
              refine tk 18 hHeld ?_
              refine tk 19 hHeld ?_
              refine tk 20 hHeld ?_
              refine tn 21 hHeld ?_
              refine tn 22 hHeld ?_
              refine tn 23 hHeld ?_
              refine tn 24 hHeld ?_
              refine tn 25 hHeld ?_
              refine tk 26 hHeld ?_
              refine rd0 ?_
              have HF := Lib.hid hHeld
              clear hHeld
              have HB3 := Lib.hid (HBX.out.trans (HF.out.mono hzx))
              clear HF
              go_wp2
              go_ret
              exact resB_no HN.out HB3.out
            | false =>
              cases b5 with
              | true =>
                have HN := Lib.hid (show ¬ PairsR P from fun h => by have h1 := h.2 k _ Hhx.out; exact h1.2.2.2.2 (H5.out.1 rfl))
                refine wp_region_held_drew (S := (fun V => Below (wx).heap.size (wx) V)) (by kernel_rfl) ((Below.refl _ _).drew) (fun hHeld => ?_)
                refine tk 0 hHeld ?_
                refine tk 1 hHeld ?_ (hy := fun w hSw => by (try dsimp only at hSw); have k0 := (hSw.cell (p := ⟨wr.heap.size, 0, none⟩) HXB.out.lt).trans (HXB.out.at_ 0 rfl); have k1 := (hSw.cell (p := ⟨wr.heap.size, 1, none⟩) HXB.out.lt).trans (HXB.out.at_ 1 rfl); clear hSw; go_simp; try with_reducible rfl)
                refine rd1 2 (fun K hK => ?_)
                go_simp
                go_at_call 29
                refine (ri_at x0 x1 H1.out _).mono ?_
                rintro e v1 ⟨rfl, hb⟩
                refine hK.out _ _ (hHeld.trans (hb.mono hHeld.size)) (fun hHeld => ?_)
                clear hK K hb
                refine tk 3 hHeld ?_
                refine tk 4 hHeld ?_
                refine tk 5 hHeld ?_
                refine tk 6 hHeld ?_ (hy := fun w hSw => by (try dsimp only at hSw); have k0 := (hSw.cell (p := ⟨wr.heap.size, 2, none⟩) HXB.out.lt).trans (HXB.out.at_ 2 rfl); have k1 := (hSw.cell (p := ⟨wr.heap.size, 3, none⟩) HXB.out.lt).trans (HXB.out.at_ 3 rfl); clear hSw; go_simp; try with_reducible rfl)
                refine rd1 7 (fun K hK => ?_)
                go_simp
                go_at_call 29
                refine (ri_at x2 x3 H2.out _).mono ?_
                rintro e v2 ⟨rfl, hb⟩
                refine hK.out _ _ (hHeld.trans (hb.mono hHeld.size)) (fun hHeld => ?_)
                clear hK K hb
                refine tk 8 hHeld ?_
                refine tk 9 hHeld ?_
                refine tk 10 hHeld ?_
                refine tk 11 hHeld ?_
                refine tk 12 hHeld ?_ (hy := fun w hSw => by (try dsimp only at hSw); have k0 := (hSw.cell (p := ⟨wr.heap.size, 4, none⟩) HXB.out.lt).trans (HXB.out.at_ 4 rfl); clear hSw; go_simp; try with_reducible rfl)
                refine tk 13 hHeld ?_
                refine tk 14 hHeld ?_
                refine tk 15 hHeld ?_
                refine tk 16 hHeld ?_
                refine tk 17 hHeld ?_ (hy := fun w hSw => by (try dsimp only at hSw); have k0 := (hSw.cell (p := ⟨wr.heap.size, 5, none⟩) HXB.out.lt).trans (HXB.out.at_ 5 rfl); clear hSw; go_simp; try with_reducible rfl)
                refine tk 18 hHeld ?_
                refine tk 19 hHeld ?_
                refine tk 20 hHeld ?_
                refine tk 21 hHeld ?_
                refine tk 22 hHeld ?_
                refine tk 23 hHeld ?_
                refine tk 24 hHeld ?_ (hy := fun w hSw => by (try dsimp only at hSw); have k0 := (hSw.cell (p := ⟨wr.heap.size, 0, none⟩) HXB.out.lt).trans (HXB.out.at_ 0 rfl); have k1 := (hSw.cell (p := ⟨wr.heap.size, 1, none⟩) HXB.out.lt).trans (HXB.out.at_ 1 rfl); have k2 := (hSw.cell (p := ⟨wr.heap.size, 2, none⟩) HXB.out.lt).trans (HXB.out.at_ 2 rfl); have k3 := (hSw.cell (p := ⟨wr.heap.size, 3, none⟩) HXB.out.lt).trans (HXB.out.at_ 3 rfl); have k4 := (hSw.cell (p := ⟨wr.heap.size, 4, none⟩) HXB.out.lt).trans (HXB.out.at_ 4 rfl); have k5 := (hSw.cell (p := ⟨wr.heap.size, 5, none⟩) HXB.out.lt).trans (HXB.out.at_ 5 rfl); clear hSw; go_simp; try with_reducible rfl)
                refine rd1 25 (fun K hK => ?_)
                go_simp
                go_at_call 48
                refine (contains_at hkl (gmvS HPX.out hHeld) H5.out).mono ?_
                rintro e v3 ⟨rfl, hb⟩
                refine hK.out _ _ (hHeld.trans (hb.mono hHeld.size)) (fun hHeld => ?_)
                clear hK K hb
                refine tk 26 hHeld ?_
                refine rd0 ?_
                have HF := Lib.hid hHeld
                clear hHeld
                have HB3 := Lib.hid (HBX.out.trans (HF.out.mono hzx))
                clear HF
                go_wp2
                go_ret
                exact resB_no HN.out HB3.out
              | false =>
                have HS := Lib.hid (show ∀ (j : Nat) (x : D_Letter), j < k + 1 → P[j]? = some x → PairOk P j x from fun j y hj hy => by
                  by_cases e : j = k
                  · subst e
                    have := Hhx.out
                    rw [hy] at this
                    obtain rfl := Option.some.inj this
                    exact ⟨H1.out, H2.out, by simpa using H3.out, by simpa using H4.out, fun h => by have := H5.out.2 h; cases this⟩
                  · exact HA.out j y (by omega) hy)
                refine wp_region_held_drew (S := (fun V => Below (wx).heap.size (wx) V)) (by kernel_rfl) ((Below.refl _ _).drew) (fun hHeld => ?_)
                refine tk 0 hHeld ?_
                refine tk 1 hHeld ?_ (hy := fun w hSw => by (try dsimp only at hSw); have k0 := (hSw.cell (p := ⟨wr.heap.size, 0, none⟩) HXB.out.lt).trans (HXB.out.at_ 0 rfl); have k1 := (hSw.cell (p := ⟨wr.heap.size, 1, none⟩) HXB.out.lt).trans (HXB.out.at_ 1 rfl); clear hSw; go_simp; try with_reducible rfl)
                refine rd1 2 (fun K hK => ?_)
                go_simp
                go_at_call 29
                refine (ri_at x0 x1 H1.out _).mono ?_
                rintro e v1 ⟨rfl, hb⟩
                refine hK.out _ _ (hHeld.trans (hb.mono hHeld.size)) (fun hHeld => ?_)
                clear hK K hb
                refine tk 3 hHeld ?_
                refine tk 4 hHeld ?_
                refine tk 5 hHeld ?_
                refine tk 6 hHeld ?_ (hy := fun w hSw => by (try dsimp only at hSw); have k0 := (hSw.cell (p := ⟨wr.heap.size, 2, none⟩) HXB.out.lt).trans (HXB.out.at_ 2 rfl); have k1 := (hSw.cell (p := ⟨wr.heap.size, 3, none⟩) HXB.out.lt).trans (HXB.out.at_ 3 rfl); clear hSw; go_simp; try with_reducible rfl)
                refine rd1 7 (fun K hK => ?_)
                go_simp
                go_at_call 29
                refine (ri_at x2 x3 H2.out _).mono ?_
                rintro e v2 ⟨rfl, hb⟩
                refine hK.out _ _ (hHeld.trans (hb.mono hHeld.size)) (fun hHeld => ?_)
                clear hK K hb
                refine tk 8 hHeld ?_
                refine tk 9 hHeld ?_
                refine tk 10 hHeld ?_
                refine tk 11 hHeld ?_
                refine tk 12 hHeld ?_ (hy := fun w hSw => by (try dsimp only at hSw); have k0 := (hSw.cell (p := ⟨wr.heap.size, 4, none⟩) HXB.out.lt).trans (HXB.out.at_ 4 rfl); clear hSw; go_simp; try with_reducible rfl)
                refine tk 13 hHeld ?_
                refine tk 14 hHeld ?_
                refine tk 15 hHeld ?_
                refine tk 16 hHeld ?_
                refine tk 17 hHeld ?_ (hy := fun w hSw => by (try dsimp only at hSw); have k0 := (hSw.cell (p := ⟨wr.heap.size, 5, none⟩) HXB.out.lt).trans (HXB.out.at_ 5 rfl); clear hSw; go_simp; try with_reducible rfl)
                refine tk 18 hHeld ?_
                refine tk 19 hHeld ?_
                refine tk 20 hHeld ?_
                refine tk 21 hHeld ?_
                refine tk 22 hHeld ?_
                refine tk 23 hHeld ?_
                refine tk 24 hHeld ?_ (hy := fun w hSw => by (try dsimp only at hSw); have k0 := (hSw.cell (p := ⟨wr.heap.size, 0, none⟩) HXB.out.lt).trans (HXB.out.at_ 0 rfl); have k1 := (hSw.cell (p := ⟨wr.heap.size, 1, none⟩) HXB.out.lt).trans (HXB.out.at_ 1 rfl); have k2 := (hSw.cell (p := ⟨wr.heap.size, 2, none⟩) HXB.out.lt).trans (HXB.out.at_ 2 rfl); have k3 := (hSw.cell (p := ⟨wr.heap.size, 3, none⟩) HXB.out.lt).trans (HXB.out.at_ 3 rfl); have k4 := (hSw.cell (p := ⟨wr.heap.size, 4, none⟩) HXB.out.lt).trans (HXB.out.at_ 4 rfl); have k5 := (hSw.cell (p := ⟨wr.heap.size, 5, none⟩) HXB.out.lt).trans (HXB.out.at_ 5 rfl); clear hSw; go_simp; try with_reducible rfl)
                refine rd1 25 (fun K hK => ?_)
                go_simp
                go_at_call 48
                refine (contains_at hkl (gmvS HPX.out hHeld) H5.out).mono ?_
                rintro e v3 ⟨rfl, hb⟩
                refine hK.out _ _ (hHeld.trans (hb.mono hHeld.size)) (fun hHeld => ?_)
                clear hK K hb
                refine tk 26 hHeld ?_
                refine rd0 ?_
                have HF := Lib.hid hHeld
                clear hHeld
                have HB3 := Lib.hid (HBX.out.trans (HF.out.mono hzx))
                clear HF
                go_wp2
                go_roundw
                case rel => exact ⟨k + 1, by omega, by go_num, HS, HB3.out⟩
                case measure => simp [intOf]; omega
    · have hd1 : decide ((k : Int) < (P.length : Int)) = false := decide_eq_false (by omega)
      have HY := Lib.hid (show PairsR P from ⟨h4, fun i x hx => HA.out i x (by have := el_lt hx; omega) hx⟩)
      clear hB
      go_wp2
      go_ret
      exact resB_yes HY.out HB.out
set_option maxRecDepth 100000 in
set_option maxHeartbeats 4000000 in
theorem letters_impl {L : List D_Letter} {la : Option Addr} {lc : Nat} {most : Int} {P B A : List D_Letter} {pa ba aa : Option Addr} {pc bc ac : Nat} {u n : Int} {W : World} (hP4 : P.length ≤ 4) (hP : RdSl R_Letter W W.heap.size P pa pc) (hL : RdSl R_Letter W W.heap.size L la lc) :
    Calls Tryd.prog 35 #[.agg #[.slice pa P.length pc, .slice ba B.length bc, .slice aa A.length ac, .int .i64 u, .int .i64 n], .slice la L.length lc, .int .i64 most] W (ResB (LettersR P n L most) W) := by
  have hn : L.length ≤ 9223372036854775807 := by have h1 := hL.1; have h2 := hL.2.1; unfold maxLen at h2; omega
  have HP := Lib.hid hP
  have H := Lib.hid hL
  clear hP hL
  obtain ⟨hb0, hp0⟩ := bx1 W #[.slice pa P.length pc, .slice ba B.length bc, .slice aa A.length ac, .int .i64 u, .int .i64 n] 25
  have HB0 := Lib.hid hb0
  have HD0 := Lib.hid hp0
  clear hb0 hp0
  by_cases hm : (L.length : Int) ≤ most
  rotate_left
  · have hd : decide ((L.length : Int) > most) = true := decide_eq_true (by omega)
    have HN := Lib.hid (show ¬ LettersR P n L most from fun h => hm h.1)
    go_enter Tryd.func35, Tryd.ntmps35
    go_wp2
    go_ret
    exact resB_no HN.out HB0.out
  have HM := Lib.hid hm
  have hd : decide ((L.length : Int) > most) = false := decide_eq_false (by omega)
  clear hm
  go_enter Tryd.func35, Tryd.ntmps35
  go_wp2
  go_loopw [7, 16] (fun l i wr => ∃ k : Nat, k ≤ L.length ∧ i = .int .i64 k ∧ (∃ m : Int, l = .int .i64 m ∧ Hid (0 ≤ m ∧ (k = 0 → m = 0) ∧ ∀ y, 0 < k → L[k - 1]? = some y → y.2.2.1 = m)) ∧ Hid (∀ (j : Nat) (x : D_Letter), j < k → L[j]? = some x → LetOk P n L j x) ∧ Below W.heap.size W wr ∧ Hid (Blk wr (W.heap.size) 25 #[.slice pa P.length pc, .slice ba B.length bc, .slice aa A.length ac, .int .i64 u, .int .i64 n])) (fun _ i _ => L.length - (intOf i).toNat)
  case atStart => exact ⟨0, Nat.zero_le _, rfl, ⟨0, rfl, Lib.hid ⟨by omega, fun _ => rfl, fun y h => absurd h (Nat.lt_irrefl _)⟩⟩, Lib.hid fun j x h => absurd h (Nat.not_lt_zero _), HB0.out, HD0⟩
  case round =>
    obtain ⟨k, hk, rfl, ⟨m, rfl, HLM⟩, HA, hB, HD⟩ := hrel
    have HB := Lib.hid hB
    have hsz := hB.size
    by_cases hlt : k < L.length
    · obtain ⟨⟨⟨x0, x1⟩, ⟨x2, x3⟩, x4, x5⟩, hx⟩ := el_some hlt
      have Hhx := Lib.hid hx
      obtain ⟨g, o, us, rfl, hgg, hu, hr⟩ := (H.out.below R_Letter_ok hB).at_ hx
      obtain rfl := rd_Letter hr
      have e0 : wr.cell? ⟨g, o + k * 6, none⟩ = some (.int .i64 x0) := by simpa [size_LetterS, Nat.add_assoc] using hu 0 _ rfl
      have e1 : wr.cell? ⟨g, o + k * 6 + 1, none⟩ = some (.int .i64 x1) := by simpa [size_LetterS, Nat.add_assoc] using hu 1 _ rfl
      have e2 : wr.cell? ⟨g, o + k * 6 + 2, none⟩ = some (.int .i64 x2) := by simpa [size_LetterS, Nat.add_assoc] using hu 2 _ rfl
      have e3 : wr.cell? ⟨g, o + k * 6 + 3, none⟩ = some (.int .i64 x3) := by simpa [size_LetterS, Nat.add_assoc] using hu 3 _ rfl
      have e4 : wr.cell? ⟨g, o + k * 6 + 4, none⟩ = some (.int .i64 x4) := by simpa [size_LetterS, Nat.add_assoc] using hu 4 _ rfl
      have e5 : wr.cell? ⟨g, o + k * 6 + 5, none⟩ = some (.int .i64 x5) := by simpa [size_LetterS, Nat.add_assoc] using hu 5 _ rfl
      have hi0 : (0 : Int) ≤ (k : Int) := Int.natCast_nonneg _
      have hi1 : (k : Int) < (L.length : Int) := by omega
      have hgl : g < wr.heap.size := Nat.lt_of_lt_of_le hgg hsz
      clear hB hx hu hr
      obtain ⟨b1, H1⟩ := nameB (HasCh P (x0, x1) (x2, x3))
      obtain ⟨b2, H2⟩ : ∃ b, Hid (isB x4 m n = b) := ⟨_, Lib.hid rfl⟩
      obtain ⟨b3, H3⟩ : ∃ b, Hid (isB x5 0 1000000 = b) := ⟨_, Lib.hid rfl⟩
      have HX0 := Lib.hid (show Below wr.heap.size wr (wr.alloc (.cells #[.int .i64 x0, .int .i64 x1, .int .i64 x2, .int .i64 x3, .int .i64 x4, .int .i64 x5] 48)) from (Below.refl _ _).alloc (Nat.le_refl _) _)
      have HXB := Lib.hid (Blk.new wr 48 #[.int .i64 x0, .int .i64 x1, .int .i64 x2, .int .i64 x3, .int .i64 x4, .int .i64 x5])
      obtain ⟨wx, hwx⟩ : ∃ w, w = wr.alloc (.cells #[.int .i64 x0, .int .i64 x1, .int .i64 x2, .int .i64 x3, .int .i64 x4, .int .i64 x5] 48) := ⟨_, rfl⟩
      rw [← hwx] at HX0 HXB
      have HBX := Lib.hid (HB.out.trans (HX0.out.mono hsz))
      have hzx := HBX.out.size
      have HDX := Lib.hid (show Blk wx (W.heap.size) 25 #[.slice pa P.length pc, .slice ba B.length bc, .slice aa A.length ac, .int .i64 u, .int .i64 n] from HD.out.call HX0.out)
      have HPX := Lib.hid ((HP.out.below R_Letter_ok HBX.out).more R_Letter_ok hzx)
      have l0_0 := HDX.out.at_ 0 rfl
      have l0_1 := HDX.out.at_ 1 rfl
      have l0_2 := HDX.out.at_ 2 rfl
      have l0_3 := HDX.out.at_ 3 rfl
      have l0_4 := HDX.out.at_ 4 rfl
      rw [hwx] at l0_0 l0_1 l0_2 l0_3 l0_4
      go_wp2_with fail
      rw [← hwx]
      clear hwx
      have HOK : Hid (b1 = true → b2 = true → b3 = true → LetOk P n L k ((x0, x1), (x2, x3), x4, x5)) := Lib.hid fun e1 e2 e3 => by
        subst e1 e2 e3
        obtain ⟨g0, g1, g2⟩ := HLM.out
        have h2 := H2.out
        simp only [isB, Bool.and_eq_true, decide_eq_true_iff] at h2
        refine ⟨H1.out.1 rfl, ?_, H3.out, fun y hk0 hy => ?_⟩
        · simp only [isB, Bool.and_eq_true, decide_eq_true_iff]; omega
        · have := g2 y hk0 hy; show y.2.2.1 ≤ x4; omega
      have HNO : Hid (LetOk P n L k ((x0, x1), (x2, x3), x4, x5) → b1 = true ∧ b2 = true ∧ b3 = true) := Lib.hid fun h => by
        obtain ⟨g0, g1, g2⟩ := HLM.out
        refine ⟨H1.out.2 h.1, ?_, H3.out.symm.trans h.2.2.1⟩
        have h2 : isB x4 0 n = true := h.2.1
        rw [← H2.out]
        simp only [isB, Bool.and_eq_true, decide_eq_true_iff] at h2 ⊢
        refine ⟨?_, h2.2⟩
        by_cases hk0 : 0 < k
        · obtain ⟨y, hy⟩ := el_some (L := L) (k := k - 1) (by omega)
          have h3 := g2 y hk0 hy
          have h4 : y.2.2.1 ≤ x4 := h.2.2.2 y hk0 hy
          omega
        · have := g1 (by omega); omega
      refine (chan_impl hP4 HPX.out H1.out).mono ?_
      rintro e w1 ⟨rfl, hb⟩
      have HB1 := Lib.hid (HBX.out.trans (hb.mono hzx))
      have hz1 := HB1.out.size
      have HX1 := Lib.hid (HXB.out.call hb)
      have HD1 := Lib.hid (HDX.out.call hb)
      have m1_0 := HX1.out.at_ 0 rfl
      have m1_1 := HX1.out.at_ 1 rfl
      have m1_2 := HX1.out.at_ 2 rfl
      have m1_3 := HX1.out.at_ 3 rfl
      have m1_4 := HX1.out.at_ 4 rfl
      have m1_5 := HX1.out.at_ 5 rfl
      have l1_0 := HD1.out.at_ 0 rfl
      have l1_1 := HD1.out.at_ 1 rfl
      have l1_2 := HD1.out.at_ 2 rfl
      have l1_3 := HD1.out.at_ 3 rfl
      have l1_4 := HD1.out.at_ 4 rfl
      clear hb
      cases b1 with
      | false =>
        have HN := Lib.hid (show ¬ LettersR P n L most from fun h => by have := (HNO.out (h.2 k _ Hhx.out)).1; cases this)
        go_wp2
        go_ret
        exact resB_no HN.out HB1.out
      | true =>
        go_wp2_with fail
        refine (within_at x4 m n H2.out _).mono ?_
        rintro e w2 ⟨rfl, hb⟩
        have HB2 := Lib.hid (HB1.out.trans (hb.mono hz1))
        have hz2 := HB2.out.size
        have HX2 := Lib.hid (HX1.out.call hb)
        have HD2 := Lib.hid (HD1.out.call hb)
        have m2_0 := HX2.out.at_ 0 rfl
        have m2_1 := HX2.out.at_ 1 rfl
        have m2_2 := HX2.out.at_ 2 rfl
        have m2_3 := HX2.out.at_ 3 rfl
        have m2_4 := HX2.out.at_ 4 rfl
        have m2_5 := HX2.out.at_ 5 rfl
        have l2_0 := HD2.out.at_ 0 rfl
        have l2_1 := HD2.out.at_ 1 rfl
        have l2_2 := HD2.out.at_ 2 rfl
        have l2_3 := HD2.out.at_ 3 rfl
        have l2_4 := HD2.out.at_ 4 rfl
        clear hb
        cases b2 with
        | false =>
          have HN := Lib.hid (show ¬ LettersR P n L most from fun h => by have := (HNO.out (h.2 k _ Hhx.out)).2.1; cases this)
          go_wp2
          go_ret
          exact resB_no HN.out HB2.out
        | true =>
          go_wp2_with fail
          refine (word_at x5 H3.out _).mono ?_
          rintro e w3 ⟨rfl, hb⟩
          have HB3 := Lib.hid (HB2.out.trans (hb.mono hz2))
          have HX3 := Lib.hid (HX2.out.call hb)
          have HD3 := Lib.hid (HD2.out.call hb)
          have m3_0 := HX3.out.at_ 0 rfl
          have m3_1 := HX3.out.at_ 1 rfl
          have m3_2 := HX3.out.at_ 2 rfl
          have m3_3 := HX3.out.at_ 3 rfl
          have m3_4 := HX3.out.at_ 4 rfl
          have m3_5 := HX3.out.at_ 5 rfl
          have l3_0 := HD3.out.at_ 0 rfl
          have l3_1 := HD3.out.at_ 1 rfl
          have l3_2 := HD3.out.at_ 2 rfl
          have l3_3 := HD3.out.at_ 3 rfl
          have l3_4 := HD3.out.at_ 4 rfl
          clear hb
          cases b3 with
          | false =>
            have HN := Lib.hid (show ¬ LettersR P n L most from fun h => by have := (HNO.out (h.2 k _ Hhx.out)).2.2; cases this)
            go_wp2
            go_ret
            exact resB_no HN.out HB3.out
          | true =>
            have HOK2 := Lib.hid (HOK.out (by first | rfl | trivial) (by first | rfl | trivial) (by first | rfl | trivial))
            have HS := Lib.hid (show ∀ (j : Nat) (x : D_Letter), j < k + 1 → L[j]? = some x → LetOk P n L j x from fun j y hj hy => by
              by_cases e : j = k
              · subst e
                have := Hhx.out
                rw [hy] at this
                obtain rfl := Option.some.inj this
                exact HOK2.out
              · exact HA.out j y (by omega) hy)
            have HLM2 := Lib.hid (show 0 ≤ x4 ∧ (k + 1 = 0 → x4 = 0) ∧ ∀ y, 0 < k + 1 → L[k + 1 - 1]? = some y → y.2.2.1 = x4 from ⟨by have h2 : isB x4 0 n = true := HOK2.out.2.1; simp only [isB, Bool.and_eq_true, decide_eq_true_iff] at h2; exact h2.1, fun h => by omega, fun y _ hy => by rw [Nat.add_sub_cancel, Hhx.out] at hy; cases hy; rfl⟩)
            go_wp2
            go_roundw
            case rel => exact ⟨k + 1, by omega, by go_num, ⟨x4, rfl, HLM2⟩, HS, HB3.out, HD3⟩
            case measure => simp [intOf]; omega
    · have hd1 : decide ((k : Int) < (L.length : Int)) = false := decide_eq_false (by omega)
      have HY := Lib.hid (show LettersR P n L most from ⟨HM.out, fun i x hx => HA.out i x (by have := el_lt hx; omega) hx⟩)
      clear hB
      go_wp2
      go_ret
      exact resB_yes HY.out HB.out
set_option maxRecDepth 100000 in
set_option maxHeartbeats 4000000 in
theorem box_impl {P B A : List D_Letter} {pa ba aa : Option Addr} {pc bc ac : Nat} {u n : Int} {W : World} (hP : RdSl R_Letter W W.heap.size P pa pc) (hB : RdSl R_Letter W W.heap.size B ba bc) (hA : RdSl R_Letter W W.heap.size A aa ac) :
    Calls Tryd.prog 15 #[.agg #[.slice pa P.length pc, .slice ba B.length bc, .slice aa A.length ac, .int .i64 u, .int .i64 n]] W (ResB (DeskR P B A u n) W) := by
  obtain ⟨hb0, hp0⟩ := bx1 W #[.slice pa P.length pc, .slice ba B.length bc, .slice aa A.length ac, .int .i64 u, .int .i64 n] 25
  have HB0 := Lib.hid hb0
  have HD0 := Lib.hid hp0
  have HPw := Lib.hid (gmvS hP hb0)
  have HBw := Lib.hid (gmvS hB hb0)
  have HAw := Lib.hid (gmvS hA hb0)
  clear hb0 hp0 hP hB hA
  obtain ⟨q1, Q1⟩ : ∃ b, Hid (isB n 0 999900 = b) := ⟨_, Lib.hid rfl⟩
  obtain ⟨q2, Q2⟩ := nameB (PairsR P)
  obtain ⟨q3, Q3⟩ := nameB (LettersR P n B 6)
  obtain ⟨q4, Q4⟩ := nameB (LettersR P n A 20)
  obtain ⟨q5, Q5⟩ := nameB (∀ x ∈ B, x ∈ A)
  obtain ⟨q6, Q6⟩ : ∃ b, Hid ((u == ((cntAt n A : Nat) : Int)) = b) := ⟨_, Lib.hid rfl⟩
  go_enter Tryd.func15, Tryd.ntmps15
  obtain ⟨W0, hW0⟩ : ∃ w, w = W.alloc (.cells #[.slice pa P.length pc, .slice ba B.length bc, .slice aa A.length ac, .int .i64 u, .int .i64 n] 25) := ⟨_, rfl⟩
  rw [← hW0] at HB0 HD0 HPw HBw HAw
  have hz0 := HB0.out.size
  go_wp2_with fail
  rw [← hW0]
  clear hW0
  refine (isNow_at n Q1.out _).mono ?_
  rintro e w1 ⟨rfl, hb⟩
  have HB1 := Lib.hid (HB0.out.trans (hb.mono hz0))
  have hz1 := HB1.out.size
  have HD1 := Lib.hid (HD0.out.call hb)
  replace HPw := Lib.hid (gmvS HPw.out hb)
  replace HBw := Lib.hid (gmvS HBw.out hb)
  replace HAw := Lib.hid (gmvS HAw.out hb)
  have d1_0 := HD1.out.at_ 0 rfl
  have d1_1 := HD1.out.at_ 1 rfl
  have d1_2 := HD1.out.at_ 2 rfl
  have d1_3 := HD1.out.at_ 3 rfl
  have d1_4 := HD1.out.at_ 4 rfl
  clear hb
  cases q1 with
  | false =>
    have HN := Lib.hid (show ¬ DeskR P B A u n from fun h => by have h2 := h.2.1; rw [Q1.out] at h2; cases h2)
    go_wp2
    go_ret
    exact resB_no HN.out HB1.out
  | true =>
    go_wp2_with fail
    refine ((channels_impl HPw.out).mono (fun _ _ => resB_at Q2.out)).mono ?_
    rintro e w2 ⟨rfl, hb⟩
    have HB2 := Lib.hid (HB1.out.trans (hb.mono hz1))
    have hz2 := HB2.out.size
    have HD2 := Lib.hid (HD1.out.call hb)
    replace HPw := Lib.hid (gmvS HPw.out hb)
    replace HBw := Lib.hid (gmvS HBw.out hb)
    replace HAw := Lib.hid (gmvS HAw.out hb)
    have d2_0 := HD2.out.at_ 0 rfl
    have d2_1 := HD2.out.at_ 1 rfl
    have d2_2 := HD2.out.at_ 2 rfl
    have d2_3 := HD2.out.at_ 3 rfl
    have d2_4 := HD2.out.at_ 4 rfl
    clear hb
    cases q2 with
    | false =>
      have HN := Lib.hid (show ¬ DeskR P B A u n from fun h => by have := Q2.out.2 h.1; cases this)
      go_wp2
      go_ret
      exact resB_no HN.out HB2.out
    | true =>
      have hP4 : P.length ≤ 4 := (Q2.out.1 (by first | rfl | trivial)).1
      go_wp2_with fail
      refine ((letters_impl hP4 HPw.out HBw.out).mono (fun _ _ => resB_at Q3.out)).mono ?_
      rintro e w3 ⟨rfl, hb⟩
      have HB3 := Lib.hid (HB2.out.trans (hb.mono hz2))
      have hz3 := HB3.out.size
      have HD3 := Lib.hid (HD2.out.call hb)
      replace HPw := Lib.hid (gmvS HPw.out hb)
      replace HBw := Lib.hid (gmvS HBw.out hb)
      replace HAw := Lib.hid (gmvS HAw.out hb)
      have d3_0 := HD3.out.at_ 0 rfl
      have d3_1 := HD3.out.at_ 1 rfl
      have d3_2 := HD3.out.at_ 2 rfl
      have d3_3 := HD3.out.at_ 3 rfl
      have d3_4 := HD3.out.at_ 4 rfl
      clear hb
      cases q3 with
      | false =>
        have HN := Lib.hid (show ¬ DeskR P B A u n from fun h => by have := Q3.out.2 h.2.2.1; cases this)
        go_wp2
        go_ret
        exact resB_no HN.out HB3.out
      | true =>
        go_wp2_with fail
        refine ((letters_impl hP4 HPw.out HAw.out).mono (fun _ _ => resB_at Q4.out)).mono ?_
        rintro e w4 ⟨rfl, hb⟩
        have HB4 := Lib.hid (HB3.out.trans (hb.mono hz3))
        have hz4 := HB4.out.size
        have HD4 := Lib.hid (HD3.out.call hb)
        replace HPw := Lib.hid (gmvS HPw.out hb)
        replace HBw := Lib.hid (gmvS HBw.out hb)
        replace HAw := Lib.hid (gmvS HAw.out hb)
        have d4_0 := HD4.out.at_ 0 rfl
        have d4_1 := HD4.out.at_ 1 rfl
        have d4_2 := HD4.out.at_ 2 rfl
        have d4_3 := HD4.out.at_ 3 rfl
        have d4_4 := HD4.out.at_ 4 rfl
        clear hb
        cases q4 with
        | false =>
          have HN := Lib.hid (show ¬ DeskR P B A u n from fun h => by have := Q4.out.2 h.2.2.2.1; cases this)
          go_wp2
          go_ret
          exact resB_no HN.out HB4.out
        | true =>
          have hA4 : A.length ≤ 20 := by have h := (Q4.out.1 (by first | rfl | trivial)).1; omega
          go_wp2_with fail
          refine ((audited_impl HBw.out HAw.out).mono (fun _ _ => resB_at Q5.out)).mono ?_
          rintro e w5 ⟨rfl, hb⟩
          have HB5 := Lib.hid (HB4.out.trans (hb.mono hz4))
          have hz5 := HB5.out.size
          have HD5 := Lib.hid (HD4.out.call hb)
          replace HPw := Lib.hid (gmvS HPw.out hb)
          replace HBw := Lib.hid (gmvS HBw.out hb)
          replace HAw := Lib.hid (gmvS HAw.out hb)
          have d5_0 := HD5.out.at_ 0 rfl
          have d5_1 := HD5.out.at_ 1 rfl
          have d5_2 := HD5.out.at_ 2 rfl
          have d5_3 := HD5.out.at_ 3 rfl
          have d5_4 := HD5.out.at_ 4 rfl
          clear hb
          cases q5 with
          | false =>
            have HN := Lib.hid (show ¬ DeskR P B A u n from fun h => by have := Q5.out.2 h.2.2.2.2.2.1; cases this)
            go_wp2
            go_ret
            exact resB_no HN.out HB5.out
          | true =>
            go_wp2_with fail
            refine (counts_impl hA4 HAw.out Q6.out).mono ?_
            rintro e w6 ⟨rfl, hb⟩
            have HB6 := Lib.hid (HB5.out.trans (hb.mono hz5))
            have hz6 := HB6.out.size
            have HD6 := Lib.hid (HD5.out.call hb)
            replace HPw := Lib.hid (gmvS HPw.out hb)
            replace HBw := Lib.hid (gmvS HBw.out hb)
            replace HAw := Lib.hid (gmvS HAw.out hb)
            have d6_0 := HD6.out.at_ 0 rfl
            have d6_1 := HD6.out.at_ 1 rfl
            have d6_2 := HD6.out.at_ 2 rfl
            have d6_3 := HD6.out.at_ 3 rfl
            have d6_4 := HD6.out.at_ 4 rfl
            clear hb
            cases q6 with
            | false =>
              have HN := Lib.hid (show ¬ DeskR P B A u n from fun h => by have h2 := Q6.out; rw [← h.2.2.2.2.2.2] at h2; simp at h2)
              go_wp2
              go_ret
              exact resB_no HN.out HB6.out
            | true =>
              have HEQ := Lib.hid (show u = ((cntAt n A : Nat) : Int) from by have h := Q6.out; first | exact beq_iff_eq.1 h | simpa using h)
              have hu0 : 0 ≤ u := by rw [HEQ.out]; exact Int.natCast_nonneg _
              by_cases h2 : u ≤ 2
              · have hd : decide (u ≤ 2) = true := decide_eq_true h2
                have HY := Lib.hid (show DeskR P B A u n from ⟨Q2.out.1 (by first | rfl | trivial), Q1.out, Q3.out.1 (by first | rfl | trivial), Q4.out.1 (by first | rfl | trivial), by simp only [isB, Bool.and_eq_true, decide_eq_true_iff]; exact ⟨hu0, h2⟩, Q5.out.1 (by first | rfl | trivial), HEQ.out⟩)
                clear h2 hu0
                go_wp2
                go_ret
                exact resB_yes HY.out HB6.out
              · have hd : decide (u ≤ 2) = false := decide_eq_false h2
                have HN := Lib.hid (show ¬ DeskR P B A u n from fun h => by have h3 := h.2.2.2.2.1; simp only [isB, Bool.and_eq_true, decide_eq_true_iff] at h3; exact h2 h3.2)
                clear h2 hu0
                go_wp2
                go_ret
                exact resB_no HN.out HB6.out
noncomputable def readD (P B A : List D_Letter) (u n l s : Int) : List Int := by
  classical exact if DeskR P B A u n ∧ LabC.rB l s = true then (B.filter fun x => LabC.belowB x.2.1.1 x.2.1.2 l s).map fun x => x.2.2.2 else []
theorem readD_no {P B A : List D_Letter} {u n l s : Int} (h : ¬ (DeskR P B A u n ∧ LabC.rB l s = true)) : readD P B A u n l s = [] := if_neg h
theorem readD_yes {P B A : List D_Letter} {u n l s : Int} (h : DeskR P B A u n ∧ LabC.rB l s = true) : readD P B A u n l s = (B.filter fun x => LabC.belowB x.2.1.1 x.2.1.2 l s).map fun x => x.2.2.2 := if_pos h
theorem newS_nil {α : Type} {E : Rp α} {w w' : World} (hb : Below w.heap.size w w') : NewS E [] w (.returned (.slice none 0 0)) w' := ⟨none, 0, rfl, ⟨Nat.le_refl _, Nat.zero_le _, fun h => absurd h (Nat.lt_irrefl _)⟩, hb⟩
set_option maxRecDepth 100000 in
set_option maxHeartbeats 4000000 in
theorem reads_impl {P B A : List D_Letter} {pa ba aa : Option Addr} {pc bc ac : Nat} {u n : Int} {W : World} {l s : Int} (hP : RdSl R_Letter W W.heap.size P pa pc) (hB : RdSl R_Letter W W.heap.size B ba bc) (hA : RdSl R_Letter W W.heap.size A aa ac) :
    Calls Tryd.prog 13 #[.agg #[.slice pa P.length pc, .slice ba B.length bc, .slice aa A.length ac, .int .i64 u, .int .i64 n], .agg #[.int .i64 l, .int .i64 s]] W (NewS I (readD P B A u n l s) W) := by
  obtain ⟨hb0, hp0, hl0⟩ := bx2 W #[.slice pa P.length pc, .slice ba B.length bc, .slice aa A.length ac, .int .i64 u, .int .i64 n] #[.int .i64 l, .int .i64 s] 25 27
  have HB0 := Lib.hid hb0
  have HD0 := Lib.hid hp0
  have HL0 := Lib.hid hl0
  have HPw := Lib.hid (gmvS hP hb0)
  have HBw := Lib.hid (gmvS hB hb0)
  have HAw := Lib.hid (gmvS hA hb0)
  clear hb0 hp0 hl0 hP hB hA
  obtain ⟨q1, Q1⟩ := nameB (DeskR P B A u n)
  obtain ⟨q2, Q2⟩ : ∃ b, Hid (LabC.rB l s = b) := ⟨_, Lib.hid rfl⟩
  go_enter Tryd.func13, Tryd.ntmps13
  obtain ⟨W0, hW0⟩ : ∃ w, w = (W.alloc (.cells #[.slice pa P.length pc, .slice ba B.length bc, .slice aa A.length ac, .int .i64 u, .int .i64 n] 25)).alloc (.cells #[.int .i64 l, .int .i64 s] 27) := ⟨_, rfl⟩
  rw [← hW0] at HB0 HD0 HL0 HPw HBw HAw
  have hz0 := HB0.out.size
  go_wp2_with fail
  rw [← hW0]
  clear hW0
  refine ((box_impl HPw.out HBw.out HAw.out).mono (fun _ _ => resB_at Q1.out)).mono ?_
  rintro e w1 ⟨rfl, hb⟩
  have HB1 := Lib.hid (HB0.out.trans (hb.mono hz0))
  have hz1 := HB1.out.size
  have HD1 := Lib.hid (HD0.out.call hb)
  have HL1 := Lib.hid (HL0.out.call hb)
  replace HBw := Lib.hid (gmvS HBw.out hb)
  have d1_0 := HD1.out.at_ 0 rfl
  have d1_1 := HD1.out.at_ 1 rfl
  have d1_2 := HD1.out.at_ 2 rfl
  have d1_3 := HD1.out.at_ 3 rfl
  have d1_4 := HD1.out.at_ 4 rfl
  have c1_0 := HL1.out.at_ 0 rfl
  have c1_1 := HL1.out.at_ 1 rfl
  clear hb
  cases q1 with
  | false =>
    have HN := Lib.hid (readD_no (l := l) (s := s) (fun h => by have := Q1.out.2 h.1; cases this))
    go_wp2
    go_ret
    rw [HN.out]
    exact newS_nil HB1.out
  | true =>
    go_wp2_with fail
    refine (ri_at l s Q2.out _).mono ?_
    rintro e w2 ⟨rfl, hb⟩
    have HB2 := Lib.hid (HB1.out.trans (hb.mono hz1))
    have hz2 := HB2.out.size
    have HD2 := Lib.hid (HD1.out.call hb)
    have HL2 := Lib.hid (HL1.out.call hb)
    replace HBw := Lib.hid (gmvS HBw.out hb)
    have d2_0 := HD2.out.at_ 0 rfl
    have d2_1 := HD2.out.at_ 1 rfl
    have d2_2 := HD2.out.at_ 2 rfl
    have d2_3 := HD2.out.at_ 3 rfl
    have d2_4 := HD2.out.at_ 4 rfl
    have c2_0 := HL2.out.at_ 0 rfl
    have c2_1 := HL2.out.at_ 1 rfl
    clear hb
    cases q2 with
    | false =>
      have HN := Lib.hid (readD_no (P := P) (B := B) (A := A) (u := u) (n := n) (l := l) (s := s) (fun h => by have h2 := h.2; rw [Q2.out] at h2; cases h2))
      go_wp2
      go_ret
      rw [HN.out]
      exact newS_nil HB2.out
    | true =>
      have HY := Lib.hid (readD_yes (l := l) (s := s) ⟨Q1.out.1 (by first | rfl | trivial), Q2.out⟩)
      have hB6 : B.length ≤ 6 := by have h := (Q1.out.1 (by first | rfl | trivial)).2.2.1.1; omega
      go_wp2_with fail
      refine (answer_read hB6 HBw.out).mono ?_
      intro e w3 h
      obtain ⟨ra, rc, rfl, ho, hb⟩ := newI_elim h
      have HB3 := Lib.hid (HB2.out.trans (hb.mono hz2))
      have HO := Lib.hid (ho.more (T := Rg W.heap.size w3.heap.size) fun k hk => ⟨Nat.le_trans hz2 hk.1, hk.2⟩)
      clear h ho hb
      obtain ⟨M, hM⟩ : ∃ M, ((B.filter fun x => LabC.belowB x.2.1.1 x.2.1.2 l s).map fun x => x.2.2.2) = M := ⟨_, rfl⟩
      have HM := Lib.hid hM
      rw [hM] at HO ⊢
      have a1 : ∀ W, (Instr.typeAssert (.iface 39 (.slice ra M.length rc)) 20 39 true).run Tryd.prog W = .ok (.tuple #[.slice ra M.length rc, .bool true]) W := fun W => by kernel_rfl
      clear hM
      go_wp2
      go_ret
      rw [HY.out, HM.out]
      exact ⟨ra, rc, rfl, HO.out, HB3.out⟩
end Go.Proofs.YtphklknaagjmpaaDoor.RepC
end
section
namespace Go.Proofs.YtphklknaagjmpaaDoor.RepC
open Go.RowKit RowC ValC SpanC KeptC
set_option linter.unusedVariables false
set_option linter.unusedSimpArgs false
theorem below2_at (l s m t : Int) {b : Bool} (hb : LabC.bB l s m t = b) (w : World) : Calls Tryd.prog 32 #[.agg #[.int .i64 l, .int .i64 s], .agg #[.int .i64 m, .int .i64 t]] w fun e w' => e = .returned (.bool b) ∧ Below w.heap.size w w' := by
  refine (LabC.below2_spec l s m t w).mono ?_
  unfold LabC.labO
  rintro e w1 ⟨rfl, rfl⟩
  exact ⟨by rw [hb], ((Below.refl _ _).alloc (Nat.le_refl _) _).alloc (by simp) _⟩
theorem to_right {P B A : List D_Letter} {u n : Int} (h : DeskR P B A u n) {k : Nat} {x : D_Letter} (hx : B[k]? = some x) : LabC.rB x.2.1.1 x.2.1.2 = true := by
  obtain ⟨p, hp, _, h2⟩ := (h.2.2.1.2 k x hx).1
  obtain ⟨i, hi⟩ := List.mem_iff_getElem?.1 hp
  have := (h.1.2 i p hi).2.1
  rwa [h2] at this
theorem words_step (q : D_Letter → Bool) {L : List D_Letter} {k : Nat} {x : D_Letter} (hx : L[k]? = some x) : ((L.take (k + 1)).filter q).map (fun x => x.2.2.2) = ((L.take k).filter q).map (fun x => x.2.2.2) ++ (if q x then [x.2.2.2] else []) := by
  rw [filter_step q hx, List.map_append]
  congr 1
  split <;> rfl
set_option maxRecDepth 100000 in
set_option maxHeartbeats 4000000 in
theorem reads_spec {P B A : List D_Letter} {pa ba aa : Option Addr} {pc bc ac : Nat} {u n : Int} {W : World} {l s : Int} (hP : RdSl R_Letter W W.heap.size P pa pc) (hB : RdSl R_Letter W W.heap.size B ba bc) (hA : RdSl R_Letter W W.heap.size A aa ac) :
    Calls Tryd.prog 14 #[.agg #[.slice pa P.length pc, .slice ba B.length bc, .slice aa A.length ac, .int .i64 u, .int .i64 n], .agg #[.int .i64 l, .int .i64 s]] W (NewS I (readD P B A u n l s) W) := by
  have H := Lib.hid hB
  obtain ⟨hb0, hp0, hl0⟩ := bx2 W #[.slice pa P.length pc, .slice ba B.length bc, .slice aa A.length ac, .int .i64 u, .int .i64 n] #[.int .i64 l, .int .i64 s] 25 27
  obtain ⟨w0, hw0⟩ : ∃ w, w = (W.alloc (.cells #[.slice pa P.length pc, .slice ba B.length bc, .slice aa A.length ac, .int .i64 u, .int .i64 n] 25)).alloc (.cells #[.int .i64 l, .int .i64 s] 27) := ⟨_, rfl⟩
  have hs0 : w0.heap.size = W.heap.size + 1 + 1 := by rw [hw0]; simp only [World.size_alloc]
  rw [← hw0] at hb0 hp0 hl0
  have hb1 : Below w0.heap.size w0 (w0.alloc (.cells #[] 2)) := (Below.refl _ _).alloc (Nat.le_refl _) _
  obtain ⟨W0, hW0⟩ : ∃ w, w = w0.alloc (.cells #[] 2) := ⟨_, rfl⟩
  have hO0 := App.made I w0 2
  rw [← hW0] at hO0 hb1
  have hsz0 := hb0.size
  have HO0 := Lib.hid hO0
  have HB0 := Lib.hid (hb0.trans (hb1.mono hsz0))
  have HD0 := Lib.hid (hp0.call hb1)
  have HL0 := Lib.hid (hl0.call hb1)
  have HPw := Lib.hid (gmvS hP HB0.out)
  have HBw := Lib.hid (gmvS hB HB0.out)
  have HAw := Lib.hid (gmvS hA HB0.out)
  have hz0 := HB0.out.size
  rw [hs0] at HO0
  rw [hw0] at hW0
  clear hb0 hp0 hl0 hb1 hO0 hP hB hA hs0 hsz0 hw0 w0
  obtain ⟨q1, Q1⟩ := nameB (DeskR P B A u n)
  obtain ⟨q2, Q2⟩ : ∃ b, Hid (LabC.rB l s = b) := ⟨_, Lib.hid rfl⟩
  go_enter Tryd.func14, Tryd.ntmps14
  go_wp2_with fail
  rw [← hW0]
  clear hW0
  refine ((box_spec HPw.out HBw.out HAw.out).mono (fun _ _ => resB_at Q1.out)).mono ?_
  rintro e w1 ⟨rfl, hb⟩
  have HB1 := Lib.hid (HB0.out.trans (hb.mono hz0))
  have hz1 := HB1.out.size
  have HD1 := Lib.hid (HD0.out.call hb)
  have HL1 := Lib.hid (HL0.out.call hb)
  have HO1 := Lib.hid (HO0.out.call I_ok hb)
  have d1_0 := HD1.out.at_ 0 rfl
  have d1_1 := HD1.out.at_ 1 rfl
  have d1_2 := HD1.out.at_ 2 rfl
  have d1_3 := HD1.out.at_ 3 rfl
  have d1_4 := HD1.out.at_ 4 rfl
  have c1_0 := HL1.out.at_ 0 rfl
  have c1_1 := HL1.out.at_ 1 rfl
  clear hb
  cases q1 with
  | false =>
    have HN := Lib.hid (readD_no (l := l) (s := s) (fun h => by have := Q1.out.2 h.1; cases this))
    go_wp2
    go_ret
    rw [HN.out]
    exact ⟨_, _, rfl, ⟨Nat.le_refl _, Nat.zero_le _, fun h => absurd h (Nat.lt_irrefl _)⟩, HB1.out⟩
  | true =>
    go_wp2_with fail
    refine (rs_at l s Q2.out _).mono ?_
    rintro e w2 ⟨rfl, hb⟩
    have HB2 := Lib.hid (HB1.out.trans (hb.mono hz1))
    have hz2 := HB2.out.size
    have HD2 := Lib.hid (HD1.out.call hb)
    have HL2 := Lib.hid (HL1.out.call hb)
    have HO2 := Lib.hid (HO1.out.call I_ok hb)
    have d2_0 := HD2.out.at_ 0 rfl
    have d2_1 := HD2.out.at_ 1 rfl
    have d2_2 := HD2.out.at_ 2 rfl
    have d2_3 := HD2.out.at_ 3 rfl
    have d2_4 := HD2.out.at_ 4 rfl
    have c2_0 := HL2.out.at_ 0 rfl
    have c2_1 := HL2.out.at_ 1 rfl
    clear hb
    cases q2 with
    | false =>
      have HN := Lib.hid (readD_no (P := P) (B := B) (A := A) (u := u) (n := n) (l := l) (s := s) (fun h => by have h2 := h.2; rw [Q2.out] at h2; cases h2))
      go_wp2
      go_ret
      rw [HN.out]
      exact ⟨_, _, rfl, ⟨Nat.le_refl _, Nat.zero_le _, fun h => absurd h (Nat.lt_irrefl _)⟩, HB2.out⟩
    | true =>
      have HDR := Lib.hid (Q1.out.1 (by first | rfl | trivial))
      have HY := Lib.hid (readD_yes (l := l) (s := s) ⟨HDR.out, Q2.out⟩)
      have hB6 : B.length ≤ 6 := by have h := HDR.out.2.2.1.1; omega
      obtain ⟨q, hq⟩ : ∃ q : D_Letter → Bool, (fun x : D_Letter => LabC.belowB x.2.1.1 x.2.1.2 l s) = q := ⟨_, rfl⟩
      have HQ := Lib.hid hq
      rw [hq] at HY
      clear hq
      go_wp2
      go_loopw [5, 6] (fun o i wr => ∃ k : Nat, k ≤ B.length ∧ i = .int .i64 k ∧ (∃ a c xs Sf hi, o = .slice a (((B.take k).filter q).map fun x => x.2.2.2).length c ∧ W.heap.size + 1 + 1 ≤ hi ∧ App I wr (W.heap.size + 1 + 1) hi 2 (.slice a (((B.take k).filter q).map fun x => x.2.2.2).length c) (((B.take k).filter q).map fun x => x.2.2.2) xs Sf) ∧ Below W.heap.size W wr ∧ Hid (Blk wr W.heap.size 25 #[.slice pa P.length pc, .slice ba B.length bc, .slice aa A.length ac, .int .i64 u, .int .i64 n]) ∧ Hid (Blk wr (W.heap.size + 1) 27 #[.int .i64 l, .int .i64 s])) (fun _ i _ => B.length - (intOf i).toNat)
      case atStart => exact ⟨0, Nat.zero_le _, rfl, ⟨_, _, _, _, _, rfl, by omega, HO2.out⟩, HB2.out, HD2, HL2⟩
      case round =>
        obtain ⟨k, hk, rfl, ⟨oa, oc, xs, Sf, hi, rfl, hlo, hO⟩, hB, HD, HL⟩ := hrel
        have HB := Lib.hid hB
        have HO := Lib.hid hO
        have hsz := hB.size
        have r1 := HD.out.at_ 1 rfl
        by_cases hlt : k < B.length
        · obtain ⟨⟨⟨x0, x1⟩, ⟨x2, x3⟩, x4, x5⟩, hx⟩ := el_some hlt
          have Hhx := Lib.hid hx
          obtain ⟨g, o, us, rfl, hgg, hu, hr⟩ := (H.out.below R_Letter_ok hB).at_ hx
          obtain rfl := rd_Letter hr
          have e0 : wr.cell? ⟨g, o + k * 6, none⟩ = some (.int .i64 x0) := by simpa [size_LetterS, Nat.add_assoc] using hu 0 _ rfl
          have e1 : wr.cell? ⟨g, o + k * 6 + 1, none⟩ = some (.int .i64 x1) := by simpa [size_LetterS, Nat.add_assoc] using hu 1 _ rfl
          have e2 : wr.cell? ⟨g, o + k * 6 + 2, none⟩ = some (.int .i64 x2) := by simpa [size_LetterS, Nat.add_assoc] using hu 2 _ rfl
          have e3 : wr.cell? ⟨g, o + k * 6 + 3, none⟩ = some (.int .i64 x3) := by simpa [size_LetterS, Nat.add_assoc] using hu 3 _ rfl
          have e4 : wr.cell? ⟨g, o + k * 6 + 4, none⟩ = some (.int .i64 x4) := by simpa [size_LetterS, Nat.add_assoc] using hu 4 _ rfl
          have e5 : wr.cell? ⟨g, o + k * 6 + 5, none⟩ = some (.int .i64 x5) := by simpa [size_LetterS, Nat.add_assoc] using hu 5 _ rfl
          have hgl : g < wr.heap.size := Nat.lt_of_lt_of_le hgg hsz
          have hi0 : (0 : Int) ≤ (k : Int) := Int.natCast_nonneg _
          have hi1 : (k : Int) < (B.length : Int) := by omega
          have HST := Lib.hid (words_step q Hhx.out)
          have hfl : (((B.take k).filter q).map fun x => x.2.2.2).length ≤ k := by rw [List.length_map]; exact Nat.le_trans (List.length_filter_le _ _) (by rw [List.length_take]; omega)
          have HQX := Lib.hid (show q ((x0, x1), (x2, x3), x4, x5) = LabC.bB x2 x3 l s from by rw [← HQ.out]; exact LabC.below_yes (to_right HDR.out Hhx.out) Q2.out)
          clear hB hx hu hr hO
          obtain ⟨M, hM⟩ : ∃ M, (((B.take k).filter q).map fun x => x.2.2.2) = M := ⟨_, rfl⟩
          rw [hM] at HO HST hfl ⊢
          clear hM
          obtain ⟨b, hbp⟩ : ∃ b, LabC.bB x2 x3 l s = b := ⟨_, rfl⟩
          have HP := Lib.hid hbp
          clear hbp
          go_wp2_with fail
          refine wp_region_held_drew (S := (fun V => Below (wr).heap.size (wr) V)) (by kernel_rfl) ((Below.refl _ _).drew) (fun hHeld => ?_)
          refine tk 0 hHeld ?_
          refine tk 1 hHeld ?_ (hy := fun w hSw => by (try dsimp only at hSw); have k0 := (hSw.cell (p := ⟨W.heap.size, 1, none⟩) HD.out.lt).trans (HD.out.at_ 1 rfl); clear hSw; go_simp; try with_reducible rfl)
          refine tk 2 hHeld ?_
          refine tk 3 hHeld ?_
          refine tk 4 hHeld ?_
          refine tk 5 hHeld ?_ (hy := fun w hSw => by (try dsimp only at hSw); have k0 := (hSw.cell (p := ⟨g, o + k * 6 + 2, none⟩) hgl).trans e2; have k1 := (hSw.cell (p := ⟨g, o + k * 6 + 3, none⟩) hgl).trans e3; clear hSw; go_simp; try with_reducible rfl)
          refine tk 6 hHeld ?_ (hy := fun w hSw => by (try dsimp only at hSw); have k0 := (hSw.cell (p := ⟨W.heap.size + 1, 0, none⟩) HL.out.lt).trans (HL.out.at_ 0 rfl); have k1 := (hSw.cell (p := ⟨W.heap.size + 1, 1, none⟩) HL.out.lt).trans (HL.out.at_ 1 rfl); clear hSw; go_simp; try with_reducible rfl)
          refine rd1 7 (fun K hK => ?_)
          go_simp
          go_at_call 32
          refine (below2_at x2 x3 l s HP.out _).mono ?_
          rintro e v1 ⟨rfl, hb⟩
          refine hK.out _ _ (hHeld.trans (hb.mono hHeld.size)) (fun hHeld => ?_)
          clear hK K hb
          refine rd0 ?_
          have HF := Lib.hid hHeld
          clear hHeld
          have HB3 := Lib.hid (HB.out.trans (HF.out.mono hsz))
          have hz3 := HB3.out.size
          have HD3 := Lib.hid (HD.out.call HF.out)
          have HL3 := Lib.hid (HL.out.call HF.out)
          have HO3 := Lib.hid (HO.out.call I_ok HF.out)
          have hgl3 := Nat.lt_of_lt_of_le hgl HF.out.size
          have f0 := (HF.out.cell (p := ⟨g, _, none⟩) hgl).trans e0
          have f1 := (HF.out.cell (p := ⟨g, _, none⟩) hgl).trans e1
          have f2 := (HF.out.cell (p := ⟨g, _, none⟩) hgl).trans e2
          have f3 := (HF.out.cell (p := ⟨g, _, none⟩) hgl).trans e3
          have f4 := (HF.out.cell (p := ⟨g, _, none⟩) hgl).trans e4
          have f5 := (HF.out.cell (p := ⟨g, _, none⟩) hgl).trans e5
          have t1 := HD3.out.at_ 1 rfl
          clear HF
          cases b with
          | false =>
            have HE := Lib.hid (show ((B.take (k + 1)).filter q).map (fun x => x.2.2.2) = M from by rw [HST.out, HQX.out, HP.out]; simp)
            go_wp2
            go_roundw
            case rel => exact ⟨k + 1, by omega, by go_num, by rw [HE.out]; exact ⟨oa, oc, xs, Sf, hi, rfl, hlo, HO3.out⟩, HB3.out, HD3, HL3⟩
            case measure => simp [intOf]; omega
          | true =>
            have HE := Lib.hid (show ((B.take (k + 1)).filter q).map (fun x => x.2.2.2) = M ++ [x5] from by rw [HST.out, HQX.out, HP.out]; simp)
            have hle3 := HO3.out.le
            obtain ⟨na, nc, w2', xs2, Sf2, hr, hA2, hb2⟩ := app_int HO3.out x5 hlo (by omega)
            have HR := Lib.hid hr
            have HA2 := Lib.hid hA2
            have HB4 := Lib.hid (HB3.out.trans (hb2.mono (by omega)))
            have hz4 := hb2.size
            have HD4 := Lib.hid (show Blk w2' W.heap.size _ _ from (hb2.block _ (by omega)).trans HD3.out)
            have HL4 := Lib.hid (show Blk w2' (W.heap.size + 1) 27 #[.int .i64 l, .int .i64 s] from (hb2.block _ (by omega)).trans HL3.out)
            clear hr hA2 hb2
            go_wp2_with (at_builtin; refine wpList_app rfl (.tmp 32) (.tmp 39) 39 rfl rfl rfl HR.out ?_)
            go_roundw
            case rel => exact ⟨k + 1, by omega, by go_num, by rw [HE.out]; exact ⟨na, nc, xs2, Sf2, _, by simp, by omega, HA2.out⟩, HB4.out, HD4, HL4⟩
            case measure => simp [intOf]; omega
        · obtain rfl : k = B.length := by omega
          have hd : decide ((B.length : Int) < (B.length : Int)) = false := decide_eq_false (by omega)
          have HE := Lib.hid (show (((B.take B.length).filter q).map fun x => x.2.2.2) = ((B.filter q).map fun x => x.2.2.2) from by rw [List.take_length])
          rw [HE.out] at HO ⊢
          clear hB hO HE
          go_wp2
          go_ret
          rw [HY.out]
          obtain ⟨a', c', e, ho⟩ := HO.out.done
          cases e
          have hle := HO.out.le
          exact ⟨oa, oc, rfl, ho.more fun p hp => ⟨by have := hp.1; omega, Nat.lt_of_lt_of_le hp.2 hle⟩, HB.out⟩
end Go.Proofs.YtphklknaagjmpaaDoor.RepC
end
section
namespace Go.Proofs.YtphklknaagjmpaaDoor.RepC
open Go.RowKit RowC ValC SpanC KeptC
set_option linter.unusedVariables false
set_option linter.unusedSimpArgs false
noncomputable def boxB (d : D_Desk) : Bool := by classical exact decide (DeskR d.1 d.2.1 d.2.2.1 d.2.2.2.1 d.2.2.2.2)
theorem boxB_iff {P B A : List D_Letter} {u n : Int} : boxB (P, B, A, u, n) = true ↔ DeskR P B A u n := by unfold boxB; simp
theorem gbox_spec {d : D_Desk} {cs : List Value} {W : World} (h : R_Desk.rd W W.heap.size d cs) : Calls Tryd.prog 16 #[.agg cs.toArray] W (IsB (boxB d) W) := by
  obtain ⟨P, B, A, u, n⟩ := d
  obtain ⟨a0, c0, a1, c1, a2, c2, rfl, k0, k1, k2⟩ := rd_Desk h
  exact (box_spec k0 k1 k2).mono fun _ _ => resB_at boxB_iff
theorem gbox_impl {d : D_Desk} {cs : List Value} {W : World} (h : R_Desk.rd W W.heap.size d cs) : Calls Tryd.prog 15 #[.agg cs.toArray] W (IsB (boxB d) W) := by
  obtain ⟨P, B, A, u, n⟩ := d
  obtain ⟨a0, c0, a1, c1, a2, c2, rfl, k0, k1, k2⟩ := rd_Desk h
  exact (box_impl k0 k1 k2).mono fun _ _ => resB_at boxB_iff
noncomputable def readG (d : D_Desk) (l s : Int) : List Int := readD d.1 d.2.1 d.2.2.1 d.2.2.2.1 d.2.2.2.2 l s
theorem greads_spec {d : D_Desk} {cs : List Value} {l s : Int} {W : World} (h : R_Desk.rd W W.heap.size d cs) : Calls Tryd.prog 14 #[.agg cs.toArray, .agg #[.int .i64 l, .int .i64 s]] W (NewS I (readG d l s) W) := by
  obtain ⟨P, B, A, u, n⟩ := d
  obtain ⟨a0, c0, a1, c1, a2, c2, rfl, k0, k1, k2⟩ := rd_Desk h
  exact reads_spec k0 k1 k2
theorem greads_impl {d : D_Desk} {cs : List Value} {l s : Int} {W : World} (h : R_Desk.rd W W.heap.size d cs) : Calls Tryd.prog 13 #[.agg cs.toArray, .agg #[.int .i64 l, .int .i64 s]] W (NewS I (readG d l s) W) := by
  obtain ⟨P, B, A, u, n⟩ := d
  obtain ⟨a0, c0, a1, c1, a2, c2, rfl, k0, k1, k2⟩ := rd_Desk h
  exact reads_impl k0 k1 k2
theorem szd_Desk2 {P B A : List D_Letter} {u n : Int} : R_Desk.sz (P, B, A, u, n) = P.length + B.length + A.length := by
  rw [szd_Desk, flat_LetterS, flat_LetterS, flat_LetterS]
end Go.Proofs.YtphklknaagjmpaaDoor.RepC
end
section
namespace Go.Proofs.YtphklknaagjmpaaDoor.RepC
open Go.RowKit RowC ValC SpanC KeptC
set_option linter.unusedVariables false
set_option linter.unusedSimpArgs false
def NewL (L : List D_Letter) (W : World) (e : Ending) (w' : World) : Prop := ∃ v lo, e = .returned v ∧ W.heap.size ≤ lo ∧ lo ≤ w'.heap.size ∧ LRow w' lo v L ∧ Below W.heap.size W w'
theorem newL_elim {L : List D_Letter} {W : World} {e : Ending} {w' : World} (h : NewL L W e w') : ∃ v lo, e = .returned v ∧ W.heap.size ≤ lo ∧ lo ≤ w'.heap.size ∧ LRow w' lo v L ∧ Below W.heap.size W w' := h
theorem NewL.news {L : List D_Letter} {W : World} {e : Ending} {w' : World} (h : NewL L W e w') : NewS R_Letter L W e w' := by
  obtain ⟨v, lo, rfl, h1, h2, hr, hb⟩ := h
  obtain ⟨a, c, rfl, ho⟩ := hr.sl R_Letter_ok flat_Letter
  exact ⟨a, c, rfl, ho.more fun k hk => ⟨Nat.le_trans h1 (hr.blk k hk).1, (hr.blk k hk).2⟩, hb⟩
set_option maxRecDepth 100000 in
set_option maxHeartbeats 1600000 in
theorem grow_impl {n : Nat} {z : Int} (hz : z = (n : Int)) (hn : n ≤ 1099511627776) {W : World} : Calls Tryd.prog 54 #[.slice none 0 0, .int .i64 z] W (NewL [] W) := by
  subst hz
  by_cases h0 : n = 0
  · subst h0
    go_enter Tryd.func54, Tryd.ntmps54
    go_wp2
    go_ret
    exact ⟨_, W.heap.size, rfl, Nat.le_refl _, Nat.le_refl _, FRow.none_ _ _ _ _ _, Below.refl _ _⟩
  · obtain ⟨c, w', hr, hrow, hb, hle⟩ := LRow.grown (w := W) (n := n) (by omega) hn
    have HR := Lib.hid hr
    have HW := Lib.hid hrow
    have HB := Lib.hid hb
    have hw : IntKind.i64.wrap (n : Int) = (n : Int) := IntWalk.i64_in _ (by omega)
    have hp : decide ((n : Int) > 0) = true := decide_eq_true (by omega)
    have hp2 : decide (0 < n) = true := decide_eq_true (by omega)
    have hm : decide ((n : Int) < 0) = false := decide_eq_false (by omega)
    clear hr hrow hb
    go_enter Tryd.func54, Tryd.ntmps54
    go_wp2_with (at_builtin; refine Lib.wpList_append_run _ rfl (.tmp 20) (.tmp 21) _ _ rfl _ _ rfl rfl _ _ HR.out ?_)
    go_ret
    exact ⟨_, W.heap.size, rfl, Nat.le_refl _, HB.out.size, HW.out, HB.out⟩
set_option maxRecDepth 100000 in
set_option maxHeartbeats 3200000 in
theorem concat_impl {L M : List D_Letter} {la ma : Option Addr} {lc mc b : Nat} {W : World} (hn : L.length + M.length ≤ 1073741824) (hL : RdSl R_Letter W W.heap.size L la lc) (hM : RdSl R_Letter W W.heap.size M ma mc) (hb : Blk W b 23 #[.slice la L.length lc, .slice ma M.length mc]) :
    Calls Tryd.prog 50 #[.slice (some ⟨b, 0, none⟩) 2 2] W (NewL (L ++ M) W) := by
  have HL := Lib.hid hL
  have HM := Lib.hid hM
  have HBK := Lib.hid hb
  have hbl := hb.lt
  have hw1 : IntKind.i64.wrap (L.length : Int) = (L.length : Int) := IntWalk.i64_in _ (by omega)
  have hw2 : IntKind.i64.wrap ((L.length : Int) + (M.length : Int)) = (L.length : Int) + (M.length : Int) := IntWalk.i64_in _ (by omega)
  have hd1 : decide ((L.length : Int) < 0) = false := decide_eq_false (by omega)
  have hd2 : decide ((L.length : Int) + (M.length : Int) < 0) = false := decide_eq_false (by omega)
  clear hL hM hb
  go_enter Tryd.func50, Tryd.ntmps50
  go_wp2
  go_loopw [3, 11] (fun s i wr => ((i = .int .i64 0 ∧ s = .int .i64 0) ∨ (i = .int .i64 1 ∧ s = .int .i64 (L.length : Int)) ∨ (i = .int .i64 2 ∧ s = .int .i64 ((L.length : Int) + (M.length : Int)))) ∧ Below W.heap.size W wr) (fun _ i _ => 2 - (intOf i).toNat)
  case atStart => exact ⟨.inl ⟨rfl, rfl⟩, Below.refl _ _⟩
  case round =>
    obtain ⟨hcase, hB⟩ := hrel
    have HB := Lib.hid hB
    have hsz := hB.size
    have HK := Lib.hid (show Blk wr b 23 #[.slice la L.length lc, .slice ma M.length mc] from HBK.out.call hB)
    have e0 := HK.out.at_ 0 rfl
    have e1 := HK.out.at_ 1 rfl
    rcases hcase with ⟨rfl, rfl⟩ | ⟨rfl, rfl⟩ | ⟨rfl, rfl⟩
    · clear hB
      go_wp2
      go_roundw
      case rel => exact ⟨.inr (.inl ⟨rfl, rfl⟩), HB.out⟩
      case measure => simp [intOf]
    · clear hB
      go_wp2
      go_roundw
      case rel => exact ⟨.inr (.inr ⟨rfl, rfl⟩), HB.out⟩
      case measure => simp [intOf]
    · clear hB e0 e1
      go_wp2_with fail
      refine (grow_impl (n := L.length + M.length) (by simp) (by omega)).mono ?_
      intro e w1 h
      obtain ⟨v, lo, rfl, hlo, hlw, hrow, hb⟩ := newL_elim h
      have HB1 := Lib.hid (HB.out.trans (hb.mono hsz))
      have hz1 := HB1.out.size
      have HV := Lib.hid hrow
      have hlo0 : W.heap.size ≤ lo := by omega
      clear h hrow hb
      go_wp2
      go_loopw [6, 27] (fun v i wr => ((i = .int .i64 0 ∧ ∃ lo, W.heap.size ≤ lo ∧ lo ≤ wr.heap.size ∧ LRow wr lo v []) ∨ (i = .int .i64 1 ∧ ∃ lo, W.heap.size ≤ lo ∧ lo ≤ wr.heap.size ∧ LRow wr lo v L) ∨ (i = .int .i64 2 ∧ ∃ lo, W.heap.size ≤ lo ∧ lo ≤ wr.heap.size ∧ LRow wr lo v (L ++ M))) ∧ Below W.heap.size W wr) (fun _ i _ => 2 - (intOf i).toNat)
      case atStart => exact ⟨.inl ⟨rfl, lo, hlo0, hlw, HV.out⟩, HB1.out⟩
      case round =>
        obtain ⟨hcase, hB⟩ := hrel
        have HB := Lib.hid hB
        have hsz := hB.size
        have HK := Lib.hid (show Blk wr b 23 #[.slice la L.length lc, .slice ma M.length mc] from HBK.out.call hB)
        have e0 := HK.out.at_ 0 rfl
        have e1 := HK.out.at_ 1 rfl
        have HLr := Lib.hid (gmvS HL.out hB)
        have HMr := Lib.hid (gmvS HM.out hB)
        rcases hcase with ⟨rfl, lo2, hl1, hl2, hrow⟩ | ⟨rfl, lo2, hl1, hl2, hrow⟩ | ⟨rfl, lo2, hl1, hl2, hrow⟩
        · obtain ⟨va, vc, rfl⟩ := hrow.isSlice
          obtain ⟨a', c', w2, hr, hrow2, hb2⟩ := LRow.more hrow HLr.out hl2 (by simp only [List.length_nil]; omega)
          simp only [List.nil_append, List.length_nil] at hr hrow2
          have HR := Lib.hid hr
          have HW2 := Lib.hid hrow2
          have HB2 := Lib.hid (HB.out.trans (hb2.mono hl1))
          have hl3 := Nat.le_trans hl2 hb2.size
          clear hr hrow2 hb2 hrow hB
          go_wp2_with (at_builtin; refine wpList_app rfl (.tmp 31) (.tmp 32) 23 rfl rfl rfl HR.out ?_)
          go_roundw
          case rel => exact ⟨.inr (.inl ⟨rfl, lo2, hl1, hl3, HW2.out⟩), HB2.out⟩
          case measure => simp [intOf]
        · obtain ⟨va, vc, rfl⟩ := hrow.isSlice
          obtain ⟨a', c', w2, hr, hrow2, hb2⟩ := LRow.more hrow HMr.out hl2 (by omega)
          have HR := Lib.hid hr
          have HW2 := Lib.hid hrow2
          have HB2 := Lib.hid (HB.out.trans (hb2.mono hl1))
          have hl3 := Nat.le_trans hl2 hb2.size
          clear hr hrow2 hb2 hrow hB
          go_wp2_with (at_builtin; refine wpList_app rfl (.tmp 31) (.tmp 32) 23 rfl rfl rfl HR.out ?_)
          go_roundw
          case rel => exact ⟨.inr (.inr ⟨rfl, lo2, hl1, hl3, by simpa using HW2.out⟩), HB2.out⟩
          case measure => simp [intOf]
        · have HW2 := Lib.hid hrow
          clear hrow hB e0 e1
          go_wp2
          go_ret
          exact ⟨_, lo2, rfl, hl1, hl2, HW2.out, HB.out⟩
set_option maxRecDepth 100000 in
set_option maxHeartbeats 1600000 in
theorem letters2_impl {L M : List D_Letter} {la ma : Option Addr} {lc mc : Nat} {W : World} (hn : L.length + M.length ≤ 1073741824) (hL : RdSl R_Letter W W.heap.size L la lc) (hM : RdSl R_Letter W W.heap.size M ma mc) :
    Calls Tryd.prog 44 #[.slice la L.length lc, .slice ma M.length mc] W (NewS R_Letter (L ++ M) W) := by
  obtain ⟨hb0, hp0⟩ := bx1 W #[.slice la L.length lc, .slice ma M.length mc] 23
  obtain ⟨w0, hw0⟩ : ∃ w, w = W.alloc (.cells #[.slice la L.length lc, .slice ma M.length mc] 23) := ⟨_, rfl⟩
  rw [← hw0] at hb0 hp0
  have HB0 := Lib.hid hb0
  have HP0 := Lib.hid hp0
  have HL := Lib.hid (gmvS hL hb0)
  have HM := Lib.hid (gmvS hM hb0)
  have hz0 := hb0.size
  clear hb0 hp0 hL hM
  go_enter Tryd.func44, Tryd.ntmps44
  go_wp2_with fail
  rw [← hw0]
  clear hw0
  refine (concat_impl hn HL.out HM.out HP0.out).mono ?_
  intro e w1 h
  obtain ⟨a, c, rfl, ho, hb⟩ := newS_elim h.news
  have HO := Lib.hid (ho.more (T := Rg W.heap.size w1.heap.size) fun k hk => ⟨Nat.le_trans hz0 hk.1, hk.2⟩)
  have HB1 := Lib.hid (HB0.out.trans (hb.mono hz0))
  clear h ho hb
  go_wp2
  go_ret
  exact ⟨a, c, by simp, HO.out, HB1.out⟩
theorem letters1_impl {L : List D_Letter} {la : Option Addr} {lc : Nat} {W : World} (hn : L.length ≤ 1073741824) (hL : RdSl R_Letter W W.heap.size L la lc) :
    Calls Tryd.prog 44 #[.slice la L.length lc, .slice none 0 0] W (NewS R_Letter L W) := by
  have h := letters2_impl (M := []) (ma := none) (mc := 0) (by simpa using hn) hL ⟨Nat.le_refl _, Nat.zero_le _, fun h => absurd h (Nat.lt_irrefl _)⟩
  rw [List.append_nil] at h
  exact h
end Go.Proofs.YtphklknaagjmpaaDoor.RepC
end
section
namespace Go.Proofs.YtphklknaagjmpaaDoor.RepC
open Go.RowKit RowC ValC SpanC KeptC
set_option linter.unusedVariables false
def zeroD : D_Desk := ([], [], [], 0, 0)
noncomputable def nextG (d : D_Desk) : D_DeskStep := if boxB d = true then (if d.2.2.2.2 = 999900 then (zeroD, 9) else ((d.1, [], d.2.2.1, 0, d.2.2.2.2 + 1), 0)) else (zeroD, 1)
noncomputable def letG (d : D_Desk) (f t : D_Label) (w : Int) : D_DeskStep := by
  classical exact if boxB d = true ∧ isB w 0 1000000 = true then (if HasCh d.1 f t then (if d.2.2.2.1 = 2 then (zeroD, 8) else (if d.2.1.length = 6 ∨ d.2.2.1.length = 20 then (zeroD, 9) else ((d.1, d.2.1 ++ [(f, t, d.2.2.2.2, w)], d.2.2.1 ++ [(f, t, d.2.2.2.2, w)], d.2.2.2.1 + 1, d.2.2.2.2), 0))) else (zeroD, 11)) else (zeroD, 1)
theorem nil_ow (W : World) (S : Nat → Prop) : OwSl R_Letter W S [] none 0 := ⟨Nat.le_refl _, Nat.zero_le _, fun h => absurd h (Nat.lt_irrefl _)⟩
theorem step_ow (c : Int) {W : World} {S : Nat → Prop} : R_DeskStep.ow W S (zeroD, c) [.slice none 0 0, .slice none 0 0, .slice none 0 0, .int .i64 0, .int .i64 0, .int .i64 c] :=
  mkow_DeskStep (T0 := fun _ => False) (T1 := fun _ => False) (T2 := fun _ => False) (fun k h => h.elim) (fun k h => h.elim) (fun k h => h.elim) (fun k h => h.elim) (fun k h => h.elim) (fun k h => h.elim) (nil_ow W _) (nil_ow W _) (nil_ow W _)
end Go.Proofs.YtphklknaagjmpaaDoor.RepC
end
section
namespace Go.Proofs.YtphklknaagjmpaaDoor.RepC
open Go.RowKit RowC ValC
set_option linter.unusedVariables false
set_option maxRecDepth 100000
def But2 (w w' : World) (g : Nat) : Prop := w.heap.size ≤ w'.heap.size ∧ (∀ k, k < w.heap.size → k ≠ g → w'.heap[k]? = w.heap[k]?) ∧ ∀ B, B ≤ g → B ≤ w.heap.size → Below B w w'
theorem But2.blk {w w' : World} {g k : Nat} {t : TypeId} {cs : Array Value} (h : But2 w w' g) (hb : Blk w k t cs) (hk : k ≠ g) : Blk w' k t cs := (h.2.1 k hb.lt hk).trans hb
theorem But2.alloc (w : World) (o : Obj) : But2 w (w.alloc o) w.heap.size := ⟨by simp, fun k hk _ => Below.heap_alloc w o k hk, fun B _ hB => (Below.refl _ _).alloc hB _⟩
theorem LRow.grow {w : World} {lo : Nat} {v : Value} {L M : List D_Letter} {a : Option Addr} {cap g : Nat} (h : LRow w lo v L) (hg : ∀ k, v.ownBlock = some k → k = g) (hgl : g < w.heap.size) (hM : RdSl R_Letter w w.heap.size M a cap) (hlo : lo ≤ g) (hL : L.length + M.length ≤ 2932031007402) :
    ∃ a' c' w', (Builtin.append_ #[23, 23] 23 #[v, .slice a M.length cap]).run Tryd.prog w = .ok (.slice a' (L ++ M).length c') w' ∧ LRow w' lo (.slice a' (L ++ M).length c') (L ++ M) ∧ But2 w w' g ∧ (∀ k, (Value.slice a' (L ++ M).length c').ownBlock = some k → k = g ∨ w.heap.size ≤ k) := by
  obtain ⟨i, hi', hz, hs, hby⟩ := infoLetter
  have ht : Tryd.prog.underlying 23 = some (.slice 48) := Tryd.underlying23
  cases a with
  | none =>
    have h0 : M = [] := by
      cases M with
      | nil => rfl
      | cons y ys => obtain ⟨g, o, ha, _⟩ := hM.2.2 (by simp); cases ha
    subst h0
    obtain ⟨a', c', rfl⟩ := h.isSlice
    simp only [List.append_nil]
    exact ⟨a', c', w, append_none ht hi' h.own cap, h, ⟨Nat.le_refl _, fun k _ _ => rfl, fun B _ _ => Below.refl _ _⟩, fun k hk => .inl (hg k hk)⟩
  | some x =>
    obtain ⟨news, hlen, hcells, hone, hnews⟩ : ∃ news : List Value, news.length = M.length * R_Letter.size ∧ (∀ j u, news[j]? = some u → w.cell? (x.add j) = some u) ∧ (∀ u ∈ news, u.oneCell' = true) ∧ news = M.flatMap (fun x => [.int .i64 x.1.1, .int .i64 x.1.2, .int .i64 x.2.1.1, .int .i64 x.2.1.2, .int .i64 x.2.2.1, .int .i64 x.2.2.2]) := by
      refine ⟨_, flatMap_len R_Letter_ok flat_Letter w M, fun j u hj => ?_, fun u hu => ?_, rfl⟩
      · cases M with
        | nil => simp at hj
        | cons y ys =>
          obtain ⟨g, o, ha, hg, hel⟩ := hM.2.2 (by simp)
          cases ha
          have hall := flatMap_cells R_Letter_ok flat_Letter w g (y :: ys) o fun i x hx => by
            obtain ⟨us, hu, hr⟩ := hel i x hx
            rw [← flat_Letter.rd hr]
            exact hu
          have hadd : (⟨g, o, none⟩ : Addr).add j = ⟨g, o + j, none⟩ := by unfold Addr.add; split <;> simp_all
          rw [hadd]
          exact hall j u hj
      · obtain ⟨y, hy, hu⟩ := List.mem_flatMap.1 hu
        exact R_Letter_ok.one (R_Letter_ok.ow_rd (B := 0) (flat_Letter.ow w (fun _ => False) y) (fun k h => h.elim)) u hu
    obtain ⟨v', w', hrun, hown, hgr, _, hat⟩ := run_append_own_at (P := Tryd.prog) w lo 23 23 48 i _ R_Letter.size 48 ht hi' hz hs hby rfl (by decide) v L.length _ h.own x M.length cap news hlen hcells hone (by unfold maxLen; omega) (by omega) (by omega)
    rw [hnews, ← List.flatMap_append, ← List.length_append] at hown
    have hnew : ∀ k, v'.ownBlock = some k → k = g ∨ k = w.heap.size := fun k hk => by
      rcases hat with e | e
      · rw [e] at hk; exact .inl (hg k hk)
      · rw [e] at hk; cases hk; exact .inr rfl
    have hF2 : LRow w' lo v' (L ++ M) := ⟨hown, fun k hk => by
      rcases hown.2 with ⟨hn, _⟩ | ⟨g', cap', cur, hv, hlog, hgg, _⟩
      · rw [hn] at hk; cases hk
      · rw [hv] at hk
        cases hk
        exact ⟨hlog, (Array.getElem?_eq_some_iff.1 hgg).1⟩⟩
    obtain ⟨a', c', rfl⟩ := hF2.isSlice
    refine ⟨a', c', w', hrun, hF2, ⟨hgr.size, fun k hk hne => hgr.block k hk (fun e => hne (hg k e.symm)), fun B hB hBw => below_own hgr (fun k hk => by have := hg k hk; omega) hBw⟩, fun k hk => ?_⟩
    rcases hnew k hk with e | e
    · exact .inl e
    · exact .inr (by omega)
end Go.Proofs.YtphklknaagjmpaaDoor.RepC
end
