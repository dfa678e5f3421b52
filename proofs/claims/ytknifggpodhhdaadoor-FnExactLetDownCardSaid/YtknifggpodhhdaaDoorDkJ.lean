/- What a desk is asked: the program: contracts. -/
import Derived.Test.YtknifggpodhhdaaDoorDkI
namespace Go.Proofs.YtknifggpodhhdaaDoor.RepC
open Go.RowKit RowC ValC SpanC KeptC
set_option linter.unusedVariables false
set_option linter.unusedSimpArgs false

set_option maxRecDepth 100000 in
set_option maxHeartbeats 3200000 in
theorem words_impl {L : List D_Letter} {la : Option Addr} {lc : Nat} {W : World} (hn : L.length ≤ 1073741824) (hL : RdSl R_Letter W W.heap.size L la lc) :
    Calls Tryd.prog 89 #[.slice la L.length lc] W (NewS I (L.map fun x => x.2.2.2) W) := by
  have H := Lib.hid hL
  clear hL
  go_enter Tryd.func89, Tryd.ntmps89
  go_wp2
  go_loopw [3, 8] (fun o i wr => ∃ k : Nat, k ≤ L.length ∧ i = .int .i64 k ∧ (∃ a c xs Sf hi, o = .slice a ((L.take k).map fun x => x.2.2.2).length c ∧ W.heap.size ≤ hi ∧ App I wr W.heap.size hi 2 (.slice a ((L.take k).map fun x => x.2.2.2).length c) ((L.take k).map fun x => x.2.2.2) xs Sf) ∧ Below W.heap.size W wr) (fun _ i _ => L.length - (intOf i).toNat)
  case atStart => exact ⟨0, Nat.zero_le _, rfl, ⟨none, 0, _, _, _, rfl, Nat.le_refl _, App.none_ I W 2 (Nat.le_refl _)⟩, Below.refl _ _⟩
  case round =>
    obtain ⟨k, hk, rfl, ⟨oa, oc, xs, Sf, hi, rfl, hlo, hO⟩, hB⟩ := hrel
    have HB := Lib.hid hB
    have HO := Lib.hid hO
    have hsz := hB.size
    by_cases hlt : k < L.length
    · obtain ⟨⟨⟨x0, x1⟩, ⟨x2, x3⟩, x4, x5⟩, hx⟩ := el_some hlt
      have Hhx := Lib.hid hx
      obtain ⟨g, o, us, rfl, hgg, hu, hr⟩ := (H.out.below R_Letter_ok hB).at_ hx
      obtain rfl := rd_Letter hr
      have e0 : wr.cell? ⟨g, o + k * 6, none⟩ = some (.int .i64 x0) := by simpa [size_LetterS, Nat.add_assoc] using hu 0 _ rfl
      have e1 : wr.cell? ⟨g, o + k * 6 + 1, none⟩ = some (.int .i64 x1) := by simpa [size_LetterS, Nat.add_assoc] using hu 1 _ rfl
      have e2 : wr.cell? ⟨g, o + k * 6 + 2, none⟩ = some (.int .i64 x2) := by simpa [size_LetterS, Nat.add_assoc] using hu 2 _ rfl
      have e3 : wr.cell? ⟨g, o + k * 6 + 3, none⟩ = some (.int .i64 x3) := by simpa [size_LetterS, Nat.add_assoc] using hu 3 _ rfl
      have e4 : wr.cell? ⟨g, o + k * 6 + 4, none⟩ = some (.int .i64 x4) := by simpa [size_LetterS, Nat.add_assoc] using hu 4 _ rfl
      have e5 : wr.cell? ⟨g, o + k * 6 + 5, none⟩ = some (.int .i64 x5) := by simpa [size_LetterS, Nat.add_assoc] using hu 5 _ rfl
      have hgl : g < wr.heap.size := Nat.lt_of_lt_of_le hgg hsz
      have hi0 : (0 : Int) ≤ (k : Int) := Int.natCast_nonneg _
      have hi1 : (k : Int) < (L.length : Int) := by omega
      have HE := Lib.hid (show ((L.take (k + 1)).map fun x => x.2.2.2) = ((L.take k).map fun x => x.2.2.2) ++ [x5] from by rw [List.take_add_one, Hhx.out]; simp)
      have hfl : ((L.take k).map fun x => x.2.2.2).length ≤ k := by rw [List.length_map, List.length_take]; omega
      clear hB hx hu hr hO
      obtain ⟨M, hM⟩ : ∃ M, ((L.take k).map fun x => x.2.2.2) = M := ⟨_, rfl⟩
      rw [hM] at HO HE hfl ⊢
      clear hM
      have hb1 : Below wr.heap.size wr (wr.alloc (.cells #[.int .i64 x0, .int .i64 x1, .int .i64 x2, .int .i64 x3, .int .i64 x4, .int .i64 x5] 87)) := (Below.refl _ _).alloc (Nat.le_refl _) _
      have hB1 := HB.out.trans (hb1.mono hsz)
      have hO1 := HO.out.call I_ok hb1
      obtain ⟨na, nc, w2, xs2, Sf2, hr, hA2, hb2⟩ := app_int hO1 x5 hlo (by omega)
      simp only [World.size_alloc] at hr
      have HR := Lib.hid hr
      have HA2 := Lib.hid hA2
      have HB2 := Lib.hid (hB1.trans hb2)
      have hz2 := HB2.out.size
      clear hr hA2 hb2 hb1 hB1 hO1
      go_wp2_with (at_builtin; refine wpList_app rfl (.tmp 12) (.tmp 15) 54 rfl rfl rfl HR.out ?_)
      go_roundw
      case rel => exact ⟨k + 1, by omega, by go_num, by rw [HE.out]; exact ⟨na, nc, xs2, Sf2, _, by simp, hz2, HA2.out⟩, HB2.out⟩
      case measure => simp [intOf]; omega
    · obtain rfl : k = L.length := by omega
      have hd : decide ((L.length : Int) < (L.length : Int)) = false := decide_eq_false (by omega)
      have HE := Lib.hid (show ((L.take L.length).map fun x => x.2.2.2) = (L.map fun x => x.2.2.2) from by rw [List.take_length])
      rw [HE.out] at HO ⊢
      clear hB hO HE
      go_wp2
      go_ret
      exact HO.out.new_ HB.out
theorem has_filter {P : List D_Letter} {f t : D_Label} : 0 < (P.filter fun x => x.1 == f && x.2.1 == t).length ↔ HasCh P f t := by
  rw [List.length_pos_iff_exists_mem]
  constructor
  · rintro ⟨x, hx⟩
    obtain ⟨h1, h2⟩ := List.mem_filter.1 hx
    simp only [Bool.and_eq_true, beq_iff_eq] at h2
    exact ⟨x, h1, h2⟩
  · rintro ⟨x, h1, h2, h3⟩
    exact ⟨x, List.mem_filter.2 ⟨h1, by simp [h2, h3]⟩⟩
theorem cnt_filter (n : Int) : ∀ A : List D_Letter, (A.filter fun x => x.2.2.1 == n).length = cntAt n A
  | [] => rfl
  | x :: xs => by
    have := cnt_filter n xs
    simp only [cntAt, List.filter_cons]
    by_cases h : x.2.2.1 = n
    · simp [h, this]; omega
    · simp [h, this]
def IsV (v : Value) (w : World) (e : Ending) (w' : World) : Prop := e = .returned v ∧ Below w.heap.size w w'
set_option maxRecDepth 100000 in
set_option maxHeartbeats 1600000 in
theorem answer_chan {P B A : List D_Letter} {pa ba aa : Option Addr} {pc bc ac : Nat} {u n : Int} {W : World} (hP4 : P.length ≤ 4) (hP : RdSl R_Letter W W.heap.size P pa pc) {f0 f1 t0 t1 : Int} {b : Bool} (hb : b = true ↔ HasCh P (f0, f1) (t0, t1)) :
    Calls Tryd.prog 68 #[.agg #[.slice pa P.length pc, .slice ba B.length bc, .slice aa A.length ac, .int .i64 u, .int .i64 n], .iface 117 (.agg #[.int .i64 f0, .int .i64 f1, .int .i64 t0, .int .i64 t1])] W (IsV (.iface 4 (.bool b)) W) := by
  obtain ⟨hb0, hp0⟩ := bx1 W #[.slice pa P.length pc, .slice ba B.length bc, .slice aa A.length ac, .int .i64 u, .int .i64 n] 42
  have HB0 := Lib.hid hb0
  have HZ := hb0.size
  have HPw := Lib.hid (gmvS hP hb0)
  have HD := Lib.hid hp0
  have d0 := hp0.at_ 0 rfl
  clear hb0 hp0 hP
  have a1 : ∀ W, (Instr.typeAssert (.iface 117 (.agg #[.int .i64 f0, .int .i64 f1, .int .i64 t0, .int .i64 t1])) 115 117 true).run Tryd.prog W = .ok (.tuple #[.agg #[.int .i64 f0, .int .i64 f1, .int .i64 t0, .int .i64 t1], .bool true]) W := fun W => by kernel_rfl
  have HL := Lib.hid (show decide (0 < (P.filter fun x => x.1 == (f0, f1) && x.2.1 == (t0, t1)).length) = b from by
    rw [Bool.eq_iff_iff, hb, ← has_filter, decide_eq_true_iff])
  clear hb
  go_enter Tryd.func68, Tryd.ntmps68
  go_wp2_with fail
  refine (picked_impl (by omega) (picks_chan f0 f1 t0 t1) HPw.out).mono ?_
  intro e w1 h
  obtain ⟨ra, rc, rfl, ho, hb⟩ := newS_elim h
  have HB1 := Lib.hid (HB0.out.trans (hb.mono HZ))
  clear h ho hb
  obtain ⟨m, hm⟩ : ∃ m : Nat, (P.filter fun x => x.1 == (f0, f1) && x.2.1 == (t0, t1)).length = m := ⟨_, rfl⟩
  have hl := HL.out
  rw [hm] at hl ⊢
  have HLL := Lib.hid hl
  clear hm HL hl
  go_wp2
  go_ret
  exact ⟨by rw [← HLL.out]; rfl, HB1.out⟩
set_option maxRecDepth 100000 in
set_option maxHeartbeats 1600000 in
theorem answer_used {P B A : List D_Letter} {pa ba aa : Option Addr} {pc bc ac : Nat} {u n : Int} {W : World} {t : Int} (hA4 : A.length ≤ 20) (hA : RdSl R_Letter W W.heap.size A aa ac) :
    Calls Tryd.prog 68 #[.agg #[.slice pa P.length pc, .slice ba B.length bc, .slice aa A.length ac, .int .i64 u, .int .i64 n], .iface 120 (.agg #[.int .i64 t])] W (IsV (.iface 2 (.int .i64 (cntAt t A : Nat))) W) := by
  obtain ⟨hb0, hp0⟩ := bx1 W #[.slice pa P.length pc, .slice ba B.length bc, .slice aa A.length ac, .int .i64 u, .int .i64 n] 42
  have HB0 := Lib.hid hb0
  have HZ := hb0.size
  have HAw := Lib.hid (gmvS hA hb0)
  have d2 := hp0.at_ 2 rfl
  clear hb0 hp0 hA
  have a1 : ∀ W, (Instr.typeAssert (.iface 120 (.agg #[.int .i64 t])) 115 117 true).run Tryd.prog W = .ok (.tuple #[.agg #[.int .i64 0, .int .i64 0, .int .i64 0, .int .i64 0], .bool false]) W := fun W => by kernel_rfl
  have a2 : ∀ W, (Instr.typeAssert (.iface 120 (.agg #[.int .i64 t])) 115 120 true).run Tryd.prog W = .ok (.tuple #[.agg #[.int .i64 t], .bool true]) W := fun W => by kernel_rfl
  have HL := Lib.hid (cnt_filter t A)
  go_enter Tryd.func68, Tryd.ntmps68
  go_wp2_with fail
  refine (picked_impl (by omega) (picks_at t) HAw.out).mono ?_
  intro e w1 h
  obtain ⟨ra, rc, rfl, ho, hb⟩ := newS_elim h
  have HB1 := Lib.hid (HB0.out.trans (hb.mono HZ))
  clear h ho hb
  rw [HL.out]
  clear HL
  go_wp2
  go_ret
  exact ⟨rfl, HB1.out⟩
/-- an interface that bears a new list of numbers -/
def NewI (L : List Int) (w : World) (e : Ending) (w' : World) : Prop := ∃ a c, e = .returned (.iface 54 (.slice a L.length c)) ∧ OwSl I w' (Rg w.heap.size w'.heap.size) L a c ∧ Below w.heap.size w w'
theorem newI_elim {L : List Int} {w : World} {e : Ending} {w' : World} (h : NewI L w e w') : ∃ a c, e = .returned (.iface 54 (.slice a L.length c)) ∧ OwSl I w' (Rg w.heap.size w'.heap.size) L a c ∧ Below w.heap.size w w' := h
set_option maxRecDepth 100000 in
set_option maxHeartbeats 1600000 in
theorem answer_read {P B A : List D_Letter} {pa ba aa : Option Addr} {pc bc ac : Nat} {u n : Int} {W : World} {l s : Int} (hB4 : B.length ≤ 6) (hB : RdSl R_Letter W W.heap.size B ba bc) :
    Calls Tryd.prog 68 #[.agg #[.slice pa P.length pc, .slice ba B.length bc, .slice aa A.length ac, .int .i64 u, .int .i64 n], .iface 99 (.agg #[.int .i64 l, .int .i64 s])] W (NewI ((B.filter fun x => LabC.belowB x.2.1.1 x.2.1.2 l s).map fun x => x.2.2.2) W) := by
  obtain ⟨hb0, hp0⟩ := bx1 W #[.slice pa P.length pc, .slice ba B.length bc, .slice aa A.length ac, .int .i64 u, .int .i64 n] 42
  have HB0 := Lib.hid hb0
  have HZ := hb0.size
  have HBw := Lib.hid (gmvS hB hb0)
  have d1 := hp0.at_ 1 rfl
  clear hb0 hp0 hB
  have a1 : ∀ W, (Instr.typeAssert (.iface 99 (.agg #[.int .i64 l, .int .i64 s])) 115 117 true).run Tryd.prog W = .ok (.tuple #[.agg #[.int .i64 0, .int .i64 0, .int .i64 0, .int .i64 0], .bool false]) W := fun W => by kernel_rfl
  have a2 : ∀ W, (Instr.typeAssert (.iface 99 (.agg #[.int .i64 l, .int .i64 s])) 115 120 true).run Tryd.prog W = .ok (.tuple #[.agg #[.int .i64 0], .bool false]) W := fun W => by kernel_rfl
  have a3 : ∀ W, (Instr.typeAssert (.iface 99 (.agg #[.int .i64 l, .int .i64 s])) 115 99 true).run Tryd.prog W = .ok (.tuple #[.agg #[.int .i64 l, .int .i64 s], .bool true]) W := fun W => by kernel_rfl
  have hf : (B.filter fun x => LabC.belowB x.2.1.1 x.2.1.2 l s).length ≤ 6 := Nat.le_trans (List.length_filter_le _ _) hB4
  go_enter Tryd.func68, Tryd.ntmps68
  go_wp2_with fail
  refine (picked_impl (by omega) (picks_read l s) HBw.out).mono ?_
  intro e w1 h
  obtain ⟨ra, rc, rfl, ho, hb⟩ := newS_elim h
  have HB1 := Lib.hid (HB0.out.trans (hb.mono HZ))
  have HM := Lib.hid (ho.rd R_Letter_ok fun k hk => hk.2)
  have hz1 := HB1.out.size
  clear h ho hb
  obtain ⟨M, hM⟩ : ∃ M, (B.filter fun x => LabC.belowB x.2.1.1 x.2.1.2 l s) = M := ⟨_, rfl⟩
  rw [hM] at hf HM ⊢
  have HMM := Lib.hid hM
  clear hM
  go_wp2_with fail
  refine (words_impl (by omega) HM.out).mono ?_
  intro e w2 h
  obtain ⟨qa, qc, rfl, ho, hb⟩ := newS_elim h
  have HB2 := Lib.hid (HB1.out.trans (hb.mono hz1))
  have HO := Lib.hid (ho.more (T := Rg W.heap.size w2.heap.size) fun k hk => ⟨Nat.le_trans hz1 hk.1, hk.2⟩)
  clear h ho hb
  go_wp2
  go_ret
  rw [HMM.out]
  exact ⟨qa, qc, by simp only [List.length_map]; rfl, HO.out, HB2.out⟩
set_option maxRecDepth 100000 in
set_option maxHeartbeats 1600000 in
theorem chan_impl {P B A : List D_Letter} {pa ba aa : Option Addr} {pc bc ac : Nat} {u n : Int} {W : World} (hP4 : P.length ≤ 4) (hP : RdSl R_Letter W W.heap.size P pa pc) {f0 f1 t0 t1 : Int} {b : Bool} (hb : b = true ↔ HasCh P (f0, f1) (t0, t1)) :
    Calls Tryd.prog 86 #[.agg #[.slice pa P.length pc, .slice ba B.length bc, .slice aa A.length ac, .int .i64 u, .int .i64 n], .agg #[.int .i64 f0, .int .i64 f1], .agg #[.int .i64 t0, .int .i64 t1]] W fun e w' => e = .returned (.bool b) ∧ Below W.heap.size W w' := by
  obtain ⟨hb0, hp0, hf0, ht0⟩ := bx3 W #[.slice pa P.length pc, .slice ba B.length bc, .slice aa A.length ac, .int .i64 u, .int .i64 n] #[.int .i64 f0, .int .i64 f1] #[.int .i64 t0, .int .i64 t1] 42 24 24
  have HB0 := Lib.hid hb0
  have HZ := hb0.size
  have HPw := Lib.hid (gmvS hP hb0)
  have HH := Lib.hid hb
  clear hb0 hp0 hf0 ht0 hP hb
  have a1 : ∀ W, (Instr.typeAssert (.iface 4 (.bool b)) 20 4 true).run Tryd.prog W = .ok (.tuple #[.bool b, .bool true]) W := fun W => by kernel_rfl
  go_enter Tryd.func86, Tryd.ntmps86
  obtain ⟨w0, hw0⟩ : ∃ w, w = ((W.alloc (.cells #[.slice pa P.length pc, .slice ba B.length bc, .slice aa A.length ac, .int .i64 u, .int .i64 n] 42)).alloc (.cells #[.int .i64 f0, .int .i64 f1] 24)).alloc (.cells #[.int .i64 t0, .int .i64 t1] 24) := ⟨_, rfl⟩
  rw [← hw0] at HB0 HZ HPw
  go_wp2_with fail
  rw [← hw0]
  clear hw0
  refine (answer_chan hP4 HPw.out HH.out).mono ?_
  rintro e w1 ⟨rfl, hb⟩
  have HB1 := Lib.hid (HB0.out.trans (hb.mono HZ))
  clear hb
  cases b with
  | false =>
    go_wp2
    go_ret
    exact ⟨rfl, HB1.out⟩
  | true =>
    go_wp2
    go_ret
    exact ⟨rfl, HB1.out⟩
set_option maxRecDepth 100000 in
set_option maxHeartbeats 1600000 in
theorem counts_impl {P B A : List D_Letter} {pa ba aa : Option Addr} {pc bc ac : Nat} {u n : Int} {W : World} (hA4 : A.length ≤ 20) (hA : RdSl R_Letter W W.heap.size A aa ac) {b : Bool} (hb : (u == ((cntAt n A : Nat) : Int)) = b) :
    Calls Tryd.prog 73 #[.agg #[.slice pa P.length pc, .slice ba B.length bc, .slice aa A.length ac, .int .i64 u, .int .i64 n]] W fun e w' => e = .returned (.bool b) ∧ Below W.heap.size W w' := by
  obtain ⟨hb0, hp0⟩ := bx1 W #[.slice pa P.length pc, .slice ba B.length bc, .slice aa A.length ac, .int .i64 u, .int .i64 n] 42
  have HB0 := Lib.hid hb0
  have HZ := hb0.size
  have HAw := Lib.hid (gmvS hA hb0)
  have HD := Lib.hid hp0
  clear hb0 hp0 hA
  obtain ⟨m, hm⟩ : ∃ m : Nat, cntAt n A = m := ⟨_, rfl⟩
  have HM := Lib.hid hm
  rw [hm] at hb
  clear hm
  have a1 : ∀ W, (Instr.typeAssert (.iface 2 (.int .i64 (m : Int))) 20 2 true).run Tryd.prog W = .ok (.tuple #[.int .i64 (m : Int), .bool true]) W := fun W => by kernel_rfl
  go_enter Tryd.func73, Tryd.ntmps73
  obtain ⟨w0, hw0⟩ : ∃ w, w = W.alloc (.cells #[.slice pa P.length pc, .slice ba B.length bc, .slice aa A.length ac, .int .i64 u, .int .i64 n] 42) := ⟨_, rfl⟩
  rw [← hw0] at HB0 HZ HAw HD
  go_wp2_with fail
  rw [← hw0]
  clear hw0
  refine (answer_used hA4 HAw.out).mono ?_
  rintro e w1 ⟨rfl, hb1⟩
  have HB1 := Lib.hid (HB0.out.trans (hb1.mono HZ))
  have HD1 := Lib.hid (HD.out.call hb1)
  have d3 := HD1.out.at_ 3 rfl
  rw [HM.out]
  clear hb1
  go_wp2
  go_ret
  exact ⟨rfl, HB1.out⟩
set_option maxRecDepth 100000 in
set_option maxHeartbeats 3200000 in
theorem audited_impl {P B A : List D_Letter} {pa ba aa : Option Addr} {pc bc ac : Nat} {u n : Int} {W : World} (hB : RdSl R_Letter W W.heap.size B ba bc) (hA : RdSl R_Letter W W.heap.size A aa ac) :
    Calls Tryd.prog 72 #[.agg #[.slice pa P.length pc, .slice ba B.length bc, .slice aa A.length ac, .int .i64 u, .int .i64 n]] W (ResB (∀ x ∈ B, x ∈ A) W) := by
  have hnB : B.length ≤ 9223372036854775807 := by have h1 := hB.1; have h2 := hB.2.1; unfold maxLen at h2; omega
  have H := Lib.hid hB
  have HA := Lib.hid hA
  obtain ⟨hb0, hp0⟩ := bx1 W #[.slice pa P.length pc, .slice ba B.length bc, .slice aa A.length ac, .int .i64 u, .int .i64 n] 42
  have HB0 := Lib.hid hb0
  have HD0 := Lib.hid hp0
  have d1 := hp0.at_ 1 rfl
  clear hb0 hp0 hA hB
  go_enter Tryd.func72, Tryd.ntmps72
  go_wp2
  go_loopw [8] (fun i wr => ∃ k : Nat, k ≤ B.length ∧ i = .int .i64 k ∧ Hid (∀ (j : Nat) (x : D_Letter), j < k → B[j]? = some x → x ∈ A) ∧ Below W.heap.size W wr ∧ Hid (Blk wr (W.heap.size) 42 #[.slice pa P.length pc, .slice ba B.length bc, .slice aa A.length ac, .int .i64 u, .int .i64 n])) (fun i _ => B.length - (intOf i).toNat)
  case atStart => exact ⟨0, Nat.zero_le _, rfl, Lib.hid fun j x h => absurd h (Nat.not_lt_zero _), HB0.out, HD0⟩
  case round =>
    obtain ⟨k, hk, rfl, HIN, hB, HD⟩ := hrel
    have HB := Lib.hid hB
    have hsz := hB.size
    by_cases hlt : k < B.length
    · obtain ⟨⟨⟨x0, x1⟩, ⟨x2, x3⟩, x4, x5⟩, hx⟩ := el_some hlt
      have Hhx := Lib.hid hx
      obtain ⟨g, o, us, rfl, hgg, hu, hr⟩ := (H.out.below R_Letter_ok hB).at_ hx
      obtain rfl := rd_Letter hr
      have e0 : wr.cell? ⟨g, o + k * 6, none⟩ = some (.int .i64 x0) := by simpa [size_LetterS, Nat.add_assoc] using hu 0 _ rfl
      have e1 : wr.cell? ⟨g, o + k * 6 + 1, none⟩ = some (.int .i64 x1) := by simpa [size_LetterS, Nat.add_assoc] using hu 1 _ rfl
      have e2 : wr.cell? ⟨g, o + k * 6 + 2, none⟩ = some (.int .i64 x2) := by simpa [size_LetterS, Nat.add_assoc] using hu 2 _ rfl
      have e3 : wr.cell? ⟨g, o + k * 6 + 3, none⟩ = some (.int .i64 x3) := by simpa [size_LetterS, Nat.add_assoc] using hu 3 _ rfl
      have e4 : wr.cell? ⟨g, o + k * 6 + 4, none⟩ = some (.int .i64 x4) := by simpa [size_LetterS, Nat.add_assoc] using hu 4 _ rfl
      have e5 : wr.cell? ⟨g, o + k * 6 + 5, none⟩ = some (.int .i64 x5) := by simpa [size_LetterS, Nat.add_assoc] using hu 5 _ rfl
      have hgl : g < wr.heap.size := Nat.lt_of_lt_of_le hgg hsz
      have hi0 : (0 : Int) ≤ (k : Int) := Int.natCast_nonneg _
      have hi1 : (k : Int) < (B.length : Int) := by omega
      clear hB hx hu hr
      have HX0 := Lib.hid (show Below wr.heap.size wr (wr.alloc (.cells #[.int .i64 x0, .int .i64 x1, .int .i64 x2, .int .i64 x3, .int .i64 x4, .int .i64 x5] 87)) from (Below.refl _ _).alloc (Nat.le_refl _) _)
      have HXB := Lib.hid (Blk.new wr 87 #[.int .i64 x0, .int .i64 x1, .int .i64 x2, .int .i64 x3, .int .i64 x4, .int .i64 x5])
      have HDX := Lib.hid (HD.out.call HX0.out)
      obtain ⟨wx, hwx⟩ : ∃ w, w = wr.alloc (.cells #[.int .i64 x0, .int .i64 x1, .int .i64 x2, .int .i64 x3, .int .i64 x4, .int .i64 x5] 87) := ⟨_, rfl⟩
      rw [← hwx] at HX0 HXB HDX
      have HBX := Lib.hid (HB.out.trans (HX0.out.mono hsz))
      have hzx := HBX.out.size
      have HAX := Lib.hid ((HA.out.below R_Letter_ok HBX.out).more R_Letter_ok hzx)
      have r2 := (hwx ▸ HDX.out).at_ 2 rfl
      clear r2
      have r2 := HDX.out.at_ 2 rfl
      rw [hwx] at r2
      go_wp2_with fail
      rw [← hwx]
      refine (contains_letter HAX.out).mono ?_
      intro e w1 h
      obtain ⟨q, rfl, hq, hb⟩ := resB_elim h
      have HQ := Lib.hid hq
      have HB1 := Lib.hid (HBX.out.trans (hb.mono hzx))
      have HD1 := Lib.hid (HDX.out.call hb)
      clear h hq hb r2 hwx
      cases q with
      | false =>
        have HN := Lib.hid (show ¬ ∀ x ∈ B, x ∈ A from fun h => by have := HQ.out.2 (h _ (List.mem_of_getElem? Hhx.out)); cases this)
        go_wp2
        go_ret
        exact resB_no HN.out HB1.out
      | true =>
        have HS := Lib.hid (show ∀ (j : Nat) (x : D_Letter), j < k + 1 → B[j]? = some x → x ∈ A from fun j y hj hy => by
          by_cases e : j = k
          · subst e
            have := Hhx.out
            rw [hy] at this
            obtain rfl := Option.some.inj this
            exact HQ.out.1 rfl
          · exact HIN.out j y (by omega) hy)
        go_wp2
        go_roundw
        case rel => exact ⟨k + 1, by omega, by go_num, HS, HB1.out, HD1⟩
        case measure => simp [intOf]; omega
    · have hd : decide ((k : Int) < (B.length : Int)) = false := decide_eq_false (by omega)
      have HALL := Lib.hid (show ∀ x ∈ B, x ∈ A from fun x hx => by
        obtain ⟨j, hj⟩ := List.mem_iff_getElem?.1 hx
        exact HIN.out j x (by have := el_lt hj; omega) hj)
      clear hB
      go_wp2
      go_ret
      exact resB_yes HALL.out HB.out
end Go.Proofs.YtknifggpodhhdaaDoor.RepC
