/- readNums: six numbers by a state machine with three labels: its contract. -/
import Derived.Test.YtdimpopkkjpddaaDoorEnS0
import Derived.Test.YtdimpopkkjpddaaDoorGroups
namespace Go.Proofs.YtdimpopkkjpddaaDoor.EnC
open Go.RowKit KeptC LabC RepC EnM PutM GetM GetC SealC
set_option linter.unusedVariables false
set_option linter.unusedSimpArgs false
set_option maxRecDepth 100000

def numsNo : Value := .tuple #[.agg #[.int .i64 0, .int .i64 0, .int .i64 0, .int .i64 0, .int .i64 0, .int .i64 0], .bool false]
def numsV (T : ByteArray) : Value :=
  match rdk T 6 0 [] with
  | some ([a, b, c, d, e, f], p) => if p = T.size then .tuple #[.agg #[.int .i64 a, .int .i64 b, .int .i64 c, .int .i64 d, .int .i64 e, .int .i64 f], .bool true] else numsNo
  | _ => numsNo
theorem nums_none {T : ByteArray} (h : rdk T 6 0 [] = none) : numsV T = numsNo := by unfold numsV; rw [h]
theorem nums_yes {T : ByteArray} {a b c d e f : Int} {p : Nat} (h : rdk T 6 0 [] = some ([a, b, c, d, e, f], p)) (hp : p = T.size) : numsV T = .tuple #[.agg #[.int .i64 a, .int .i64 b, .int .i64 c, .int .i64 d, .int .i64 e, .int .i64 f], .bool true] := by unfold numsV; rw [h]; exact if_pos hp
theorem nums_not {T : ByteArray} {a b c d e f : Int} {p : Nat} (h : rdk T 6 0 [] = some ([a, b, c, d, e, f], p)) (hp : ¬ p = T.size) : numsV T = numsNo := by unfold numsV; rw [h]; exact if_neg hp
theorem get_iok {s : ByteArray} {p : Nat} {n : Int} {q : Nat} (hs : s.size ≤ 8000) (hp : p ≤ 8000) (hc : (gotOf s p).code = 0) (hn : unf (gotOf s p).u = n) (hq : p + (gotOf s p).used = q) (w : World) (hD : GetC.Door w) : Calls Tryd.prog 84 #[.string s, .int .i64 p] w fun e w' => e = .returned (.agg #[.int .i64 n, .int .i64 q, .int .i64 0]) ∧ Below w.heap.size w w' := by
  have h := got_at hs hc
  rw [hn, hq] at h
  exact (impl_any s p w (by unfold maxLen; omega) (by omega) hD).mono fun e w' h2 => ⟨by rw [h2.1, h]; rfl, h2.2⟩
theorem get_ino {s : ByteArray} {p : Nat} {c : Int} (hs : s.size ≤ 8000) (hp : p ≤ 8000) (hc : ¬ (gotOf s p).code = 0) (he : (gotOf s p).code = c) (w : World) (hD : GetC.Door w) : Calls Tryd.prog 84 #[.string s, .int .i64 p] w fun e w' => e = .returned (.agg #[.int .i64 0, .int .i64 0, .int .i64 c]) ∧ Below w.heap.size w w' := by
  have h := got_not hs hc
  rw [he] at h
  exact (impl_any s p w (by unfold maxLen; omega) (by omega) hD).mono fun e w' h2 => ⟨by rw [h2.1, h]; rfl, h2.2⟩

/-- the three blocks -/
structure NB (W w' : World) (b0 b1 b2 b3 b4 b5 n q c : Int) : Prop where
  below : Below W.heap.size W w'
  out : Blk w' W.heap.size 72 #[.int .i64 0, .int .i64 0, .int .i64 0, .int .i64 0, .int .i64 0, .int .i64 0]
  row : Blk w' (W.heap.size + 1) 72 #[.int .i64 b0, .int .i64 b1, .int .i64 b2, .int .i64 b3, .int .i64 b4, .int .i64 b5]
  num : Blk w' (W.heap.size + 1 + 1) 69 #[.int .i64 n, .int .i64 q, .int .i64 c]
theorem NB.call {W w w' : World} {b0 b1 b2 b3 b4 b5 n q c : Int} (h : NB W w b0 b1 b2 b3 b4 b5 n q c) (hb : Below w.heap.size w w') : NB W w' b0 b1 b2 b3 b4 b5 n q c := ⟨h.below.trans (hb.mono h.below.size), h.out.call hb, h.row.call hb, h.num.call hb⟩
/-- the number is laid down -/
theorem NB.put {W w : World} {b0 b1 b2 b3 b4 b5 n q c : Int} (h : NB W w b0 b1 b2 b3 b4 b5 n q c) (n' q' c' : Int) : ∃ Z : World, Z = (((w.setCell ⟨W.heap.size + 1 + 1, 0, none⟩ (.int .i64 n')).setCell ⟨W.heap.size + 1 + 1, 1, none⟩ (.int .i64 q')).setCell ⟨W.heap.size + 1 + 1, 2, none⟩ (.int .i64 c')) ∧ NB W Z b0 b1 b2 b3 b4 b5 n' q' c' :=
  ⟨_, rfl, (((h.below.setCell (p := ⟨W.heap.size + 1 + 1, 0, none⟩) (by show W.heap.size ≤ W.heap.size + 1 + 1; omega) _).setCell (p := ⟨W.heap.size + 1 + 1, 1, none⟩) (by show W.heap.size ≤ W.heap.size + 1 + 1; omega) _).setCell (p := ⟨W.heap.size + 1 + 1, 2, none⟩) (by show W.heap.size ≤ W.heap.size + 1 + 1; omega) _), ((h.out.far (by omega) _).far (by omega) _).far (by omega) _, ((h.row.far (by omega) _).far (by omega) _).far (by omega) _, (((h.num.set 0 (.int .i64 n')).set 1 (.int .i64 q')).set 2 (.int .i64 c')).as rfl⟩
theorem NB.row0 {W w : World} {b0 b1 b2 b3 b4 b5 n q c : Int} (h : NB W w b0 b1 b2 b3 b4 b5 n q c) (x : Int) : ∃ Z : World, Z = w.setCell ⟨W.heap.size + 1, 0, none⟩ (.int .i64 x) ∧ NB W Z x b1 b2 b3 b4 b5 n q c :=
  ⟨_, rfl, h.below.setCell (p := ⟨W.heap.size + 1, 0, none⟩) (by show W.heap.size ≤ W.heap.size + 1; omega) _, h.out.far (by omega) _, (h.row.set 0 (.int .i64 x)).as rfl, h.num.far (by omega) _⟩
theorem NB.row1 {W w : World} {b0 b1 b2 b3 b4 b5 n q c : Int} (h : NB W w b0 b1 b2 b3 b4 b5 n q c) (x : Int) : ∃ Z : World, Z = w.setCell ⟨W.heap.size + 1, 1, none⟩ (.int .i64 x) ∧ NB W Z b0 x b2 b3 b4 b5 n q c :=
  ⟨_, rfl, h.below.setCell (p := ⟨W.heap.size + 1, 1, none⟩) (by show W.heap.size ≤ W.heap.size + 1; omega) _, h.out.far (by omega) _, (h.row.set 1 (.int .i64 x)).as rfl, h.num.far (by omega) _⟩
theorem NB.row2 {W w : World} {b0 b1 b2 b3 b4 b5 n q c : Int} (h : NB W w b0 b1 b2 b3 b4 b5 n q c) (x : Int) : ∃ Z : World, Z = w.setCell ⟨W.heap.size + 1, 2, none⟩ (.int .i64 x) ∧ NB W Z b0 b1 x b3 b4 b5 n q c :=
  ⟨_, rfl, h.below.setCell (p := ⟨W.heap.size + 1, 2, none⟩) (by show W.heap.size ≤ W.heap.size + 1; omega) _, h.out.far (by omega) _, (h.row.set 2 (.int .i64 x)).as rfl, h.num.far (by omega) _⟩
theorem NB.row3 {W w : World} {b0 b1 b2 b3 b4 b5 n q c : Int} (h : NB W w b0 b1 b2 b3 b4 b5 n q c) (x : Int) : ∃ Z : World, Z = w.setCell ⟨W.heap.size + 1, 3, none⟩ (.int .i64 x) ∧ NB W Z b0 b1 b2 x b4 b5 n q c :=
  ⟨_, rfl, h.below.setCell (p := ⟨W.heap.size + 1, 3, none⟩) (by show W.heap.size ≤ W.heap.size + 1; omega) _, h.out.far (by omega) _, (h.row.set 3 (.int .i64 x)).as rfl, h.num.far (by omega) _⟩
theorem NB.row4 {W w : World} {b0 b1 b2 b3 b4 b5 n q c : Int} (h : NB W w b0 b1 b2 b3 b4 b5 n q c) (x : Int) : ∃ Z : World, Z = w.setCell ⟨W.heap.size + 1, 4, none⟩ (.int .i64 x) ∧ NB W Z b0 b1 b2 b3 x b5 n q c :=
  ⟨_, rfl, h.below.setCell (p := ⟨W.heap.size + 1, 4, none⟩) (by show W.heap.size ≤ W.heap.size + 1; omega) _, h.out.far (by omega) _, (h.row.set 4 (.int .i64 x)).as rfl, h.num.far (by omega) _⟩
theorem NB.row5 {W w : World} {b0 b1 b2 b3 b4 b5 n q c : Int} (h : NB W w b0 b1 b2 b3 b4 b5 n q c) (x : Int) : ∃ Z : World, Z = w.setCell ⟨W.heap.size + 1, 5, none⟩ (.int .i64 x) ∧ NB W Z b0 b1 b2 b3 b4 x n q c :=
  ⟨_, rfl, h.below.setCell (p := ⟨W.heap.size + 1, 5, none⟩) (by show W.heap.size ≤ W.heap.size + 1; omega) _, h.out.far (by omega) _, (h.row.set 5 (.int .i64 x)).as rfl, h.num.far (by omega) _⟩
theorem nb_out {W w : World} {b0 b1 b2 b3 b4 b5 n q c : Int} (h : NB W w b0 b1 b2 b3 b4 b5 n q c) (v0 v1 v2 v3 v4 v5 : Value) : ∃ Wf : World, Wf = ((((((w.setCell ⟨W.heap.size, 0, none⟩ v0).setCell ⟨W.heap.size, 1, none⟩ v1).setCell ⟨W.heap.size, 2, none⟩ v2).setCell ⟨W.heap.size, 3, none⟩ v3).setCell ⟨W.heap.size, 4, none⟩ v4).setCell ⟨W.heap.size, 5, none⟩ v5) ∧ Blk Wf W.heap.size 72 #[v0, v1, v2, v3, v4, v5] ∧ Below W.heap.size W Wf :=
  ⟨_, rfl, (((((((h.out.set 0 v0).set 1 v1).set 2 v2).set 3 v3).set 4 v4).set 5 v5)).as rfl, ((((((h.below.setCell (p := ⟨W.heap.size, 0, none⟩) (Nat.le_refl _) v0).setCell (p := ⟨W.heap.size, 1, none⟩) (Nat.le_refl _) v1).setCell (p := ⟨W.heap.size, 2, none⟩) (Nat.le_refl _) v2).setCell (p := ⟨W.heap.size, 3, none⟩) (Nat.le_refl _) v3).setCell (p := ⟨W.heap.size, 4, none⟩) (Nat.le_refl _) v4).setCell (p := ⟨W.heap.size, 5, none⟩) (Nat.le_refl _) v5)⟩

def NMore (T : ByteArray) (W : World) (a' : Act) (w' : World) : Prop := ∃ (k p : Nat) (b0 b1 b2 b3 b4 b5 n c : Int), k ≤ 5 ∧ p ≤ T.size ∧ Hid (rdk T (6 - k) p ([b0, b1, b2, b3, b4, b5].take k) = rdk T 6 0 []) ∧ NB W w' b0 b1 b2 b3 b4 b5 n p c ∧ ∃ u7 u8 u9 u10 u11 u12 u13 u14 u15 u16 u17 u18 u19 u20 u21 u22 u23 u24 u25 u26 u27 u28 : Value, a' = ⟨#[.string T, undef, .pointer (some ⟨W.heap.size, 0, none⟩), .bool false, .pointer (some ⟨W.heap.size + 1, 0, none⟩), .pointer (some ⟨W.heap.size + 1 + 1, 0, none⟩), .int .i64 k, u7, u8, u9, u10, u11, u12, u13, u14, u15, u16, u17, u18, u19, u20, u21, u22, u23, u24, u25, u26, u27, u28], []⟩
def NLast (T : ByteArray) (W : World) (a' : Act) (w' : World) : Prop := ∃ (p : Nat) (b0 b1 b2 b3 b4 b5 n c : Int), p ≤ T.size ∧ Hid (rdk T 6 0 [] = some ([b0, b1, b2, b3, b4, b5], p)) ∧ NB W w' b0 b1 b2 b3 b4 b5 n p c ∧ ∃ u6 u7 u8 u9 u10 u11 u12 u13 u14 u15 u16 u17 u18 u19 u20 u21 u22 u23 u24 u25 u26 u27 u28 : Value, a' = ⟨#[.string T, undef, .pointer (some ⟨W.heap.size, 0, none⟩), .bool false, .pointer (some ⟨W.heap.size + 1, 0, none⟩), .pointer (some ⟨W.heap.size + 1 + 1, 0, none⟩), u6, u7, u8, u9, u10, u11, u12, u13, u14, u15, u16, u17, u18, u19, u20, u21, u22, u23, u24, u25, u26, u27, u28], []⟩
def NWrong (T : ByteArray) (W : World) (a' : Act) (w' : World) : Prop := Hid (numsV T = numsNo) ∧ (∃ (b0 b1 b2 b3 b4 b5 n q c : Int), NB W w' b0 b1 b2 b3 b4 b5 n q c) ∧ ∃ u6 u7 u8 u9 u10 u11 u12 u13 u14 u15 u16 u17 u18 u19 u20 u21 u22 u23 u24 u25 u26 u27 u28 : Value, a' = ⟨#[.string T, undef, .pointer (some ⟨W.heap.size, 0, none⟩), .bool false, .pointer (some ⟨W.heap.size + 1, 0, none⟩), .pointer (some ⟨W.heap.size + 1 + 1, 0, none⟩), u6, u7, u8, u9, u10, u11, u12, u13, u14, u15, u16, u17, u18, u19, u20, u21, u22, u23, u24, u25, u26, u27, u28], []⟩
def NAll (T : ByteArray) (W : World) (l : Nat) (a' : Act) (w' : World) : Prop := (l = 0 ∧ NMore T W a' w') ∨ (l = 2 ∧ NLast T W a' w') ∨ (l = 1 ∧ NWrong T W a' w')
def muN (l : Nat) (a' : Act) (_ : World) : Nat := if l = 0 then 20 - (intOf (a'.tmps.getD 6 undef)).toNat else if l = 2 then 1 else 0

set_option maxHeartbeats 4000000 in
theorem nums_impl (T : ByteArray) (W : World) (hT : T.size ≤ 8000) (hD : GetC.Door W) :
    Calls Tryd.prog 46 #[.string T] W fun e w' => e = .returned (numsV T) ∧ Below W.heap.size W w' := by
  have HD := Lib.hid hD
  have h0W := hD.lt
  clear hD
  go_enter Tryd.func46, Tryd.ntmps46
  go_wp2
  refine wp_scope_all (NAll T W) muN ?_ ?_
  · rintro l a' w1 (⟨rfl, k, p, b0, b1, b2, b3, b4, b5, n, c, hk, hp, HR, HN, u7, u8, u9, u10, u11, u12, u13, u14, u15, u16, u17, u18, u19, u20, u21, u22, u23, u24, u25, u26, u27, u28, rfl⟩ | ⟨rfl, p, b0, b1, b2, b3, b4, b5, n, c, hp, HR, HN, u6, u7, u8, u9, u10, u11, u12, u13, u14, u15, u16, u17, u18, u19, u20, u21, u22, u23, u24, u25, u26, u27, u28, rfl⟩ | ⟨rfl, HV, ⟨b0, b1, b2, b3, b4, b5, n, q, c, HN⟩, u6, u7, u8, u9, u10, u11, u12, u13, u14, u15, u16, u17, u18, u19, u20, u21, u22, u23, u24, u25, u26, u27, u28, rfl⟩)
    · refine ⟨_, rfl, ?_⟩
      have hDw := Lib.hid (HD.out.below HN.below h0W)
      have HNB := Lib.hid HN
      clear HN
      have q0 := HNB.out.num.at_ 0 rfl
      have q1 := HNB.out.num.at_ 1 rfl
      have q2 := HNB.out.num.at_ 2 rfl
      by_cases hc : (gotOf T p).code = 0
      · obtain ⟨n', hn⟩ : ∃ n', unf (gotOf T p).u = n' := ⟨_, rfl⟩
        obtain ⟨p', hq⟩ : ∃ p', p + (gotOf T p).used = p' := ⟨_, rfl⟩
        have hp' : p' ≤ T.size := by rw [← hq]; exact (got_back hp hc).2.1
        have HC := Lib.hid hc
        have HNN := Lib.hid hn
        have HQ := Lib.hid hq
        have HR2 : Hid (rdk T (6 - (k + 1)) p' ([b0, b1, b2, b3, b4, b5].take k ++ [n']) = rdk T 6 0 []) := Lib.hid (by
          have h := HR.out
          rw [show 6 - k = (6 - (k + 1)) + 1 by omega, rdk_step hc, hn, hq] at h
          exact h)
        clear hc hn hq
        go_wp2_with fail
        refine (get_iok hT (by omega) HC.out HNN.out HQ.out _ hDw.out).mono ?_
        rintro e w2 ⟨rfl, hb⟩
        have HN2 := HNB.out.call hb
        obtain ⟨Z, hZ, HNZ⟩ := HN2.put n' p' 0
        have h06 : k = 0 ∨ k = 1 ∨ k = 2 ∨ k = 3 ∨ k = 4 ∨ k = 5 := by omega
        have m0 := HN2.num.at_ 0 rfl
        have m1 := HN2.num.at_ 1 rfl
        have m2 := HN2.num.at_ 2 rfl
        have f0 := HN2.num.soft 0
        have f1 := HN2.num.soft 1
        have f2 := HN2.num.soft 2
        clear hb q0 q1 q2 hk
        rcases h06 with rfl | rfl | rfl | rfl | rfl | rfl
        · obtain ⟨Y, hY, HNY⟩ := HNZ.row0 n'
          have g0 := HNZ.row.at_ 0 rfl
          have e0 := HNZ.row.soft 0
          have y0 := HN2.row.at_ 0 rfl
          have y1 := HN2.row.soft 0
          have HNY' := Lib.hid HNY
          clear HNY HN2 HNZ
          rw [hZ] at hY g0 e0
          go_wp2
          apply wp_goto
          rw [← hY]
          show NAll T W 0 _ _ ∧ _ < _
          exact ⟨.inl ⟨rfl, 1, p', n', b1, b2, b3, b4, b5, n', 0, by omega, hp', Lib.hid HR2.out, HNY'.out, _, _, _, _, _, _, _, _, _, _, _, _, _, _, _, _, _, _, _, _, _, _, by first | rfl | (simp <;> rfl)⟩, by simp [muN, intOf]⟩
        · obtain ⟨Y, hY, HNY⟩ := HNZ.row1 n'
          have g0 := HNZ.row.at_ 1 rfl
          have e0 := HNZ.row.soft 1
          have y0 := HN2.row.at_ 1 rfl
          have y1 := HN2.row.soft 1
          have HNY' := Lib.hid HNY
          clear HNY HN2 HNZ
          rw [hZ] at hY g0 e0
          go_wp2
          apply wp_goto
          rw [← hY]
          show NAll T W 0 _ _ ∧ _ < _
          exact ⟨.inl ⟨rfl, 2, p', b0, n', b2, b3, b4, b5, n', 0, by omega, hp', Lib.hid HR2.out, HNY'.out, _, _, _, _, _, _, _, _, _, _, _, _, _, _, _, _, _, _, _, _, _, _, by first | rfl | (simp <;> rfl)⟩, by simp [muN, intOf]⟩
        · obtain ⟨Y, hY, HNY⟩ := HNZ.row2 n'
          have g0 := HNZ.row.at_ 2 rfl
          have e0 := HNZ.row.soft 2
          have y0 := HN2.row.at_ 2 rfl
          have y1 := HN2.row.soft 2
          have HNY' := Lib.hid HNY
          clear HNY HN2 HNZ
          rw [hZ] at hY g0 e0
          go_wp2
          apply wp_goto
          rw [← hY]
          show NAll T W 0 _ _ ∧ _ < _
          exact ⟨.inl ⟨rfl, 3, p', b0, b1, n', b3, b4, b5, n', 0, by omega, hp', Lib.hid HR2.out, HNY'.out, _, _, _, _, _, _, _, _, _, _, _, _, _, _, _, _, _, _, _, _, _, _, by first | rfl | (simp <;> rfl)⟩, by simp [muN, intOf]⟩
        · obtain ⟨Y, hY, HNY⟩ := HNZ.row3 n'
          have g0 := HNZ.row.at_ 3 rfl
          have e0 := HNZ.row.soft 3
          have y0 := HN2.row.at_ 3 rfl
          have y1 := HN2.row.soft 3
          have HNY' := Lib.hid HNY
          clear HNY HN2 HNZ
          rw [hZ] at hY g0 e0
          go_wp2
          apply wp_goto
          rw [← hY]
          show NAll T W 0 _ _ ∧ _ < _
          exact ⟨.inl ⟨rfl, 4, p', b0, b1, b2, n', b4, b5, n', 0, by omega, hp', Lib.hid HR2.out, HNY'.out, _, _, _, _, _, _, _, _, _, _, _, _, _, _, _, _, _, _, _, _, _, _, by first | rfl | (simp <;> rfl)⟩, by simp [muN, intOf]⟩
        · obtain ⟨Y, hY, HNY⟩ := HNZ.row4 n'
          have g0 := HNZ.row.at_ 4 rfl
          have e0 := HNZ.row.soft 4
          have y0 := HN2.row.at_ 4 rfl
          have y1 := HN2.row.soft 4
          have HNY' := Lib.hid HNY
          clear HNY HN2 HNZ
          rw [hZ] at hY g0 e0
          go_wp2
          apply wp_goto
          rw [← hY]
          show NAll T W 0 _ _ ∧ _ < _
          exact ⟨.inl ⟨rfl, 5, p', b0, b1, b2, b3, n', b5, n', 0, by omega, hp', Lib.hid HR2.out, HNY'.out, _, _, _, _, _, _, _, _, _, _, _, _, _, _, _, _, _, _, _, _, _, _, by first | rfl | (simp <;> rfl)⟩, by simp [muN, intOf]⟩
        · obtain ⟨Y, hY, HNY⟩ := HNZ.row5 n'
          have g0 := HNZ.row.at_ 5 rfl
          have e0 := HNZ.row.soft 5
          have y0 := HN2.row.at_ 5 rfl
          have y1 := HN2.row.soft 5
          have HNY' := Lib.hid HNY
          clear HNY HN2 HNZ
          rw [hZ] at hY g0 e0
          go_wp2
          apply wp_goto
          rw [← hY]
          show NAll T W 2 _ _ ∧ _ < _
          exact ⟨.inr (.inl ⟨rfl, p', b0, b1, b2, b3, b4, n', n', 0, hp', Lib.hid HR2.out.symm, HNY'.out, _, _, _, _, _, _, _, _, _, _, _, _, _, _, _, _, _, _, _, _, _, _, _, rfl⟩), by simp [muN, intOf]⟩
      · obtain ⟨cc, hce⟩ : ∃ cc, (gotOf T p).code = cc := ⟨_, rfl⟩
        have HC := Lib.hid hc
        have HCE := Lib.hid hce
        have hcn : (cc != 0) = true := by rw [← hce]; simpa using hc
        have HV : Hid (numsV T = numsNo) := Lib.hid (nums_none (by
          have h := HR.out
          rw [show 6 - k = (6 - (k + 1)) + 1 by omega, rdk_bad hc] at h
          exact h.symm))
        clear hc hce
        go_wp2_with fail
        refine (get_ino hT (by omega) HC.out HCE.out _ hDw.out).mono ?_
        rintro e w2 ⟨rfl, hb⟩
        have HN2 := HNB.out.call hb
        obtain ⟨Z, hZ, HNZ⟩ := HN2.put 0 0 cc
        have m0 := HN2.num.at_ 0 rfl
        have m1 := HN2.num.at_ 1 rfl
        have m2 := HN2.num.at_ 2 rfl
        have f0 := HN2.num.soft 0
        have f1 := HN2.num.soft 1
        have f2 := HN2.num.soft 2
        clear hb q0 q1 q2
        have HNZ' := Lib.hid HNZ
        clear HN2 HNZ
        go_wp2
        apply wp_goto
        rw [← hZ]
        show NAll T W 1 _ _ ∧ _ < _
        exact ⟨.inr (.inr ⟨rfl, HV, ⟨_, _, _, _, _, _, _, _, _, HNZ'.out⟩, _, _, _, _, _, _, _, _, _, _, _, _, _, _, _, _, _, _, _, _, _, _, _, rfl⟩), by simp [muN, intOf]; omega⟩
    · refine ⟨_, rfl, ?_⟩
      have HNB := Lib.hid HN
      have q0 := HN.num.at_ 0 rfl
      have q1 := HN.num.at_ 1 rfl
      have q2 := HN.num.at_ 2 rfl
      clear HN
      by_cases hlt : p < T.size
      · have d1 : decide ((p : Int) < (T.size : Int)) = true := decide_eq_true (by omega)
        have d2 : decide (p < T.size) = true := decide_eq_true (by omega)
        have HV : Hid (numsV T = numsNo) := Lib.hid (nums_not HR.out (by omega))
        clear hlt
        go_wp2
        apply wp_goto
        show NAll T W 1 _ _ ∧ _ < _
        exact ⟨.inr (.inr ⟨rfl, HV, ⟨_, _, _, _, _, _, _, _, _, HNB.out⟩, _, _, _, _, _, _, _, _, _, _, _, _, _, _, _, _, _, _, _, _, _, _, _, rfl⟩), by simp [muN]⟩
      · have d1 : decide ((p : Int) < (T.size : Int)) = false := decide_eq_false (by omega)
        have d2 : decide (p < T.size) = false := decide_eq_false (by omega)
        have HV := Lib.hid (nums_yes HR.out (by omega))
        have HOB := Lib.hid HNB.out.out
        have HRB := Lib.hid HNB.out.row
        clear hlt
        have o0 := HOB.out.at_ 0 rfl
        have oo0 := HOB.out.soft 0
        have r0 := HRB.out.at_ 0 rfl
        have o1 := HOB.out.at_ 1 rfl
        have oo1 := HOB.out.soft 1
        have r1 := HRB.out.at_ 1 rfl
        have o2 := HOB.out.at_ 2 rfl
        have oo2 := HOB.out.soft 2
        have r2 := HRB.out.at_ 2 rfl
        have o3 := HOB.out.at_ 3 rfl
        have oo3 := HOB.out.soft 3
        have r3 := HRB.out.at_ 3 rfl
        have o4 := HOB.out.at_ 4 rfl
        have oo4 := HOB.out.soft 4
        have r4 := HRB.out.at_ 4 rfl
        have o5 := HOB.out.at_ 5 rfl
        have oo5 := HOB.out.soft 5
        have r5 := HRB.out.at_ 5 rfl
        go_wp2
        obtain ⟨Wf, hWf, hf, hbf⟩ := nb_out HNB.out (.int .i64 b0) (.int .i64 b1) (.int .i64 b2) (.int .i64 b3) (.int .i64 b4) (.int .i64 b5)
        have z0 := hf.at_ 0 rfl
        have z1 := hf.at_ 1 rfl
        have z2 := hf.at_ 2 rfl
        have z3 := hf.at_ 3 rfl
        have z4 := hf.at_ 4 rfl
        have z5 := hf.at_ 5 rfl
        rw [← hWf]
        clear hWf hf
        rw [jumps_ret]
        exact bodyPost_ret (v := .tuple #[.agg #[.int .i64 b0, .int .i64 b1, .int .i64 b2, .int .i64 b3, .int .i64 b4, .int .i64 b5], .bool true]) (by simp [results, Tryd.results46, go_sem, z0, z1, z2, z3, z4, z5]) rfl ⟨ret_e HV.out.symm, hbf⟩
    · refine ⟨_, rfl, ?_⟩
      have HNB := Lib.hid HN
      have HOB := Lib.hid HN.out
      clear HN
      have o0 := HOB.out.at_ 0 rfl
      have oo0 := HOB.out.soft 0
      have o1 := HOB.out.at_ 1 rfl
      have oo1 := HOB.out.soft 1
      have o2 := HOB.out.at_ 2 rfl
      have oo2 := HOB.out.soft 2
      have o3 := HOB.out.at_ 3 rfl
      have oo3 := HOB.out.soft 3
      have o4 := HOB.out.at_ 4 rfl
      have oo4 := HOB.out.soft 4
      have o5 := HOB.out.at_ 5 rfl
      have oo5 := HOB.out.soft 5
      go_wp2
      obtain ⟨Wf, hWf, hf, hbf⟩ := nb_out HNB.out (.int .i64 0) (.int .i64 0) (.int .i64 0) (.int .i64 0) (.int .i64 0) (.int .i64 0)
      have z0 := hf.at_ 0 rfl
      have z1 := hf.at_ 1 rfl
      have z2 := hf.at_ 2 rfl
      have z3 := hf.at_ 3 rfl
      have z4 := hf.at_ 4 rfl
      have z5 := hf.at_ 5 rfl
      rw [← hWf]
      clear hWf hf
      rw [jumps_ret]
      exact bodyPost_ret (v := .tuple #[.agg #[.int .i64 0, .int .i64 0, .int .i64 0, .int .i64 0, .int .i64 0, .int .i64 0], .bool false]) (by simp [results, Tryd.results46, go_sem, z0, z1, z2, z3, z4, z5]) rfl ⟨ret_e HV.out.symm, hbf⟩
  · intro hpass
    obtain ⟨V, hV⟩ : ∃ V, V = ((W.alloc (.cells #[.int .i64 0, .int .i64 0, .int .i64 0, .int .i64 0, .int .i64 0, .int .i64 0] 72)).alloc (.cells #[.int .i64 0, .int .i64 0, .int .i64 0, .int .i64 0, .int .i64 0, .int .i64 0] 72)).alloc (.cells #[.int .i64 0, .int .i64 0, .int .i64 0] 69) := ⟨_, rfl⟩
    have HNV : NB W V 0 0 0 0 0 0 0 0 0 := by
      have h1 := (Blk.new (W.alloc (.cells #[.int .i64 0, .int .i64 0, .int .i64 0, .int .i64 0, .int .i64 0, .int .i64 0] 72)) 72 #[.int .i64 0, .int .i64 0, .int .i64 0, .int .i64 0, .int .i64 0, .int .i64 0]).alloc (.cells #[.int .i64 0, .int .i64 0, .int .i64 0] 69)
      have h2 := Blk.new ((W.alloc (.cells #[.int .i64 0, .int .i64 0, .int .i64 0, .int .i64 0, .int .i64 0, .int .i64 0] 72)).alloc (.cells #[.int .i64 0, .int .i64 0, .int .i64 0, .int .i64 0, .int .i64 0, .int .i64 0] 72)) 69 #[.int .i64 0, .int .i64 0, .int .i64 0]
      rw [World.size_alloc] at h1
      rw [World.size_alloc, World.size_alloc] at h2
      rw [hV]
      exact ⟨(((Below.refl _ _).alloc (Nat.le_refl _) _).alloc (by simp) _).alloc (by simp; omega) _, ((Blk.new _ _ _).alloc _).alloc _, h1, h2⟩
    go_wp2
    rw [← hV]
    clear hV
    apply wp_label
    show Exit.then _ _ Exit.normal _ _
    obtain ⟨rest, hf, hp⟩ := hpass 0 _ V (.inl ⟨rfl, 0, 0, 0, 0, 0, 0, 0, 0, 0, 0, by omega, Nat.zero_le _, Lib.hid rfl, HNV, _, _, _, _, _, _, _, _, _, _, _, _, _, _, _, _, _, _, _, _, _, _, rfl⟩)
    have he := (Code.seq.inj (Option.some.inj hf)).2
    subst he
    rename_i hk
    exact hk _ _ hp
end Go.Proofs.YtdimpopkkjpddaaDoor.EnC
