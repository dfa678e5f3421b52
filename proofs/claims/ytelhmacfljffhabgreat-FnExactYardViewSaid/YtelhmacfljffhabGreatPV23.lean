/- Of this claim's texts the part 23: JobI0 TaR2 UsO TaO TaGv PutMath Put Shelf Bld TaE1 Join. -/
import Derived.WalkKit
import Derived.Laws.Closers25b
import Derived.Laws.Bits64
import Derived.Test.YtelhmacfljffhabGreatProg
import Derived.ProofKit
import Derived.Below
import Derived.LoopTactic
import Derived.BigQuiet
import Derived.Deep.QuietTactic
import Derived.WalkSpells
import Derived.WalkLawsBesides
import Derived.Lib.Hide
import Derived.OwnWalk
import Derived.OpenShut
import Derived.Laws.IdiomStrings
import Derived.Shelf.Strings.Builder1
import Derived.Shelf.Small.Bits
import Derived.Shelf.Strconv.Itoa0
import Derived.Ground.SlgnProg
import Derived.Shelf.SlicesG.SearchI
import Derived.Ground.SlgcProg
import Derived.Shelf.SlicesG.Cmp
import Derived.Test.YtelhmacfljffhabGreatRows
import Derived.Lib.Strings
import Derived.Lib.Slices
import Derived.Lib.Walk
import Derived.Lib.Builder
import Derived.Lib.AppendStr
import Derived.Lib.UnsafeStr
import Derived.Lib.MakeNoZero
import Derived.Laws.Externs
import Derived.Laws.IdiomCopy
import Derived.Laws.BitsLemmas
import Derived.Shelf.RegionOpenPlain
import Derived.Lib.BufferWrite
import Derived.Laws.MakeOwn
import Derived.Laws.CopyOwn
import Derived.Laws.Concat
import Derived.Test.YtelhmacfljffhabGreatPV0
import Derived.Test.YtelhmacfljffhabGreatPV1
import Derived.Test.YtelhmacfljffhabGreatPV4
import Derived.Test.YtelhmacfljffhabGreatPV5
import Derived.Test.YtelhmacfljffhabGreatPV6
import Derived.Test.YtelhmacfljffhabGreatPV7
import Derived.Test.YtelhmacfljffhabGreatPV8
import Derived.Test.YtelhmacfljffhabGreatPV9
import Derived.Test.YtelhmacfljffhabGreatPV10
import Derived.Test.YtelhmacfljffhabGreatPV12
import Derived.Test.YtelhmacfljffhabGreatPV16
import Derived.Test.YtelhmacfljffhabGreatPV17
import Derived.Test.YtelhmacfljffhabGreatPV18
import Derived.Test.YtelhmacfljffhabGreatPV19
import Derived.Test.YtelhmacfljffhabGreatPV20
section
namespace Go.Proofs.YtelhmacfljffhabGreat.RepC
open Go.RowKit RowC ValC SpanC KeptC
set_option linter.unusedVariables false
set_option linter.unusedSimpArgs false
theorem ti_at (n : Int) {b : Bool} (hb : isB n 0 1000000 = b) (w : World) :
    Calls Tryz.prog 167 #[.int .i64 n] w fun e w' => e = .returned (.bool b) ∧ w = w' := by
  subst hb
  exact time_impl n w
theorem labi_below (l s : Int) {b : Bool} (hb : LabC.rB l s = b) (w : World) :
    Calls Tryz.prog 25 #[.agg #[.int .i64 l, .int .i64 s]] w fun e w' => e = .returned (.bool b) ∧ Below w.heap.size w w' := by
  subst hb
  exact (LabC.right_impl l s w).mono fun _ _ ⟨h1, h2⟩ => ⟨h1, by rw [← h2]; exact (Below.refl _ _).alloc (Nat.le_refl _) _⟩
theorem okN_first {L : List Int} {x : Int} (hx : L[0]? = some x) : isB x 0 5 = true ↔ okN L 0 :=
  ⟨fun h y hy => by rw [hx] at hy; obtain rfl := Option.some.inj hy; exact ⟨h, fun h => absurd h (Nat.lt_irrefl _)⟩, fun h => (h x hx).1⟩
theorem okN_next {L : List Int} {k : Nat} {x y : Int} (hx : L[k]? = some x) (hr : isB x 0 5 = true) (hy : L[k + 1]? = some y) : isB y (x + 1) 5 = true ↔ okN L (k + 1) := by
  rw [isB_io] at hr ⊢
  constructor
  · intro h z hz
    rw [hy] at hz
    obtain rfl := Option.some.inj hz
    refine ⟨isB_io.2 (by omega), fun _ u hu => ?_⟩
    rw [Nat.add_sub_cancel, hx] at hu
    obtain rfl := Option.some.inj hu
    omega
  · intro h
    obtain ⟨h1, h2⟩ := h y hy
    have h3 := h2 (Nat.succ_pos _) x (by rw [Nat.add_sub_cancel]; exact hx)
    rw [isB_io] at h1
    omega
set_option maxRecDepth 100000 in
set_option maxHeartbeats 3200000 in
theorem nodes_impl {L : List Int} {a : Option Addr} {cap : Nat} {W : World} (h : RdSl I W W.heap.size L a cap) :
    Calls Tryz.prog 175 #[.slice a L.length cap] W (ResB (NodesR L) W) := by
  have hn : L.length ≤ 9223372036854775807 := by have h1 := h.1; have h2 := h.2.1; unfold maxLen at h2; omega
  have H := Lib.hid h
  clear h
  go_enter Tryz.func175, Tryz.ntmps175
  go_wp2
  go_loopw [3, 8] (fun l i wr => ∃ k : Nat, k ≤ L.length ∧ i = .int .i64 k ∧ (∃ m : Int, l = .int .i64 m ∧ 0 ≤ m ∧ m ≤ 6 ∧ Hid (∀ x, L[k]? = some x → (isB x m 5 = true ↔ okN L k))) ∧ Hid (∀ j, j < k → okN L j) ∧ Below W.heap.size W wr) (fun _ i _ => L.length - (intOf i).toNat)
  case atStart => exact ⟨0, Nat.zero_le _, rfl, ⟨0, rfl, by omega, by omega, Lib.hid fun x hx => okN_first hx⟩, Lib.hid fun j h => absurd h (Nat.not_lt_zero _), Below.refl _ _⟩
  case round =>
    obtain ⟨k, hk, rfl, ⟨m, rfl, hm0, hm6, HM⟩, HA, hB⟩ := hrel
    have HB := Lib.hid hB
    have hsz := hB.size
    by_cases hlt : k < L.length
    · obtain ⟨x, hx⟩ := el_some hlt
      have HX := Lib.hid hx
      obtain ⟨g, o, us, rfl, hg, hu, hr⟩ := (H.out.below I_ok hB).at_ hx
      obtain rfl : us = [_] := hr
      have hc0 : wr.cell? ⟨g, o + k, none⟩ = some (.int .i64 x) := by simpa [show I.size = 1 from rfl] using hu 0 _ rfl
      have hi0 : (0 : Int) ≤ (k : Int) := Int.natCast_nonneg _
      have hi1 : (k : Int) < (L.length : Int) := by omega
      clear hB hx hu
      obtain ⟨b, hb⟩ : ∃ b, isB x m 5 = b := ⟨_, rfl⟩
      have HR := Lib.hid hb
      clear hb
      go_wp2_with fail
      refine (wi_at _ _ _ HR.out _).mono ?_
      rintro e w2 ⟨rfl, rfl⟩
      cases b with
      | false =>
        have Hno := Lib.hid (show ¬ NodesR L from fun h => by have := (HM.out x HX.out).2 (h k hlt); rw [HR.out] at this; cases this)
        go_wp2
        go_ret
        exact resB_no Hno.out HB.out
      | true =>
        have hxb : m ≤ x ∧ x ≤ 5 := isB_io.1 HR.out
        have hx1 : IntKind.i64.wrap (x + 1) = x + 1 := IntWalk.i64_in _ (by omega)
        have hx0 := hxb.1
        have hx5 := hxb.2
        clear hxb
        have HOK := Lib.hid (all_step HA.out ((HM.out x HX.out).1 HR.out))
        have HN := Lib.hid (fun y (hy : L[k + 1]? = some y) => okN_next HX.out (isB_io.2 ⟨by omega, hx5⟩) hy)
        go_wp2
        go_roundw
        case rel => exact ⟨k + 1, by omega, by go_num, ⟨x + 1, by go_num, by omega, by omega, HN⟩, HOK, HB.out⟩
        case measure => simp [intOf]; omega
    · have Hy := Lib.hid (show NodesR L from fun i hi => HA.out i (by omega))
      clear hB
      go_wp2
      go_ret
      exact resB_yes Hy.out HB.out
set_option maxHeartbeats 1600000 in
theorem wish_impl {x3 x4 x5 : Int} {b : Bool} (hb : (isB x3 1 6 && (isB x4 1 20 && isB x5 0 9)) = b) (W : World) : Calls Tryz.prog 126 #[.int .i64 x3, .int .i64 x4, .int .i64 x5] W fun e w' => e = .returned (.bool b) ∧ W = w' := by
  obtain ⟨b1, h1⟩ : ∃ b, isB x3 1 6 = b := ⟨_, rfl⟩
  obtain ⟨b2, h2⟩ : ∃ b, isB x4 1 20 = b := ⟨_, rfl⟩
  obtain ⟨b3, h3⟩ : ∃ b, isB x5 0 9 = b := ⟨_, rfl⟩
  rw [h1, h2, h3] at hb
  subst hb
  have H1 := Lib.hid h1
  have H2 := Lib.hid h2
  have H3 := Lib.hid h3
  clear h1 h2 h3
  go_enter Tryz.func126, Tryz.ntmps126
  go_wp2_with fail
  refine (wi_at _ _ _ H1.out _).mono ?_
  rintro e w2 ⟨rfl, rfl⟩
  cases b1 with
  | false =>
    go_wp2
    go_ret
    exact ⟨rfl, rfl⟩
  | true =>
    go_wp2_with fail
    refine (wi_at _ _ _ H2.out _).mono ?_
    rintro e w2 ⟨rfl, rfl⟩
    cases b2 with
    | false =>
      go_wp2
      go_ret
      exact ⟨rfl, rfl⟩
    | true =>
      go_wp2_with fail
      refine (wi_at _ _ _ H3.out _).mono ?_
      rintro e w2 ⟨rfl, rfl⟩
      go_wp2
      go_ret
      exact ⟨by simp, rfl⟩
end Go.Proofs.YtelhmacfljffhabGreat.RepC
end
section
namespace Go.Proofs.YtelhmacfljffhabGreat.RepC
open Go.RowKit RowC ValC SpanC KeptC NameC
set_option linter.unusedVariables false
set_option linter.unusedSimpArgs false
theorem tid_at (n : Int) {b : Bool} (hb : isB n 1 12 = b) (w : World) :
    Calls Tryz.prog 125 #[.int .i64 n] w fun e w' => e = .returned (.bool b) ∧ w = w' := by
  subst hb
  go_enter Tryz.func125, Tryz.ntmps125
  go_wp2_with (go_at_call 109; refine (is_impl _ _ _ _).mono ?_; rintro e w' ⟨rfl, rfl⟩)
  go_ret
  exact ⟨rfl, rfl⟩
theorem nowI_at (n : Int) {b : Bool} (hb : isB n 0 999900 = b) (w : World) :
    Calls Tryz.prog 66 #[.int .i64 n] w fun e w' => e = .returned (.bool b) ∧ w = w' := by
  subst hb
  go_enter Tryz.func66, Tryz.ntmps66
  go_wp2_with (go_at_call 109; refine (is_impl _ _ _ _).mono ?_; rintro e w' ⟨rfl, rfl⟩)
  go_ret
  exact ⟨rfl, rfl⟩
def nopB (start : Int) (L : List Int) : Bool := decide (start = 0) && decide (L.length = 0)
theorem nopB_iff {start : Int} {L : List Int} : nopB start L = true ↔ NoP start L := by simp [nopB, NoP]
theorem nop_at (start : Int) {L : List Int} {a : Option Addr} {c : Nat} {b : Bool} (hb : nopB start L = b) (hn : L.length ≤ 9223372036854775807) (w : World) :
    Calls Tryz.prog 159 #[.int .i64 start, .slice a L.length c] w fun e w' => e = .returned (.bool b) ∧ w = w' := by
  subst hb
  by_cases h1 : start = 0
  · have h1' : (start == 0) = true := beq_iff_eq.2 h1
    by_cases h2 : L.length = 0
    · have h2' : ((L.length : Int) == 0) = true := beq_iff_eq.2 (by omega)
      have HE := Lib.hid (show nopB start L = true from nopB_iff.2 ⟨h1, h2⟩)
      clear h1 h2
      go_enter Tryz.func159, Tryz.ntmps159
      go_wp2
      go_ret
      exact ⟨by rw [HE.out]; rfl, rfl⟩
    · have h2' : ((L.length : Int) == 0) = false := beq_eq_false_iff_ne.2 (by omega)
      have HE := Lib.hid (show nopB start L = false from by rw [Bool.eq_false_iff, ne_eq, nopB_iff]; exact fun h => h2 h.2)
      clear h1
      go_enter Tryz.func159, Tryz.ntmps159
      go_wp2
      go_ret
      exact ⟨by rw [HE.out]; rfl, rfl⟩
  · have h1' : (start == 0) = false := beq_eq_false_iff_ne.2 h1
    have HE := Lib.hid (show nopB start L = false from by rw [Bool.eq_false_iff, ne_eq, nopB_iff]; exact fun h => h1 h.1)
    go_enter Tryz.func159, Tryz.ntmps159
    go_wp2
    go_ret
    exact ⟨by rw [HE.out]; rfl, rfl⟩
set_option maxRecDepth 100000 in
set_option maxHeartbeats 1600000 in
theorem place_impl (need start : Int) {L : List Int} {a : Option Addr} {c : Nat} {W : World} (h : RdSl I W W.heap.size L a c) :
    Calls Tryz.prog 158 #[.int .i64 need, .int .i64 start, .slice a L.length c] W (ResB (PlR need start L) W) := by
  have hn : L.length ≤ 9223372036854775807 := by have h1 := h.1; have h2 := h.2.1; unfold maxLen at h2; omega
  have H := Lib.hid h
  clear h
  obtain ⟨b, hb⟩ : ∃ b, isB start 0 1000000 = b := ⟨_, rfl⟩
  have HB := Lib.hid hb
  clear hb
  go_enter Tryz.func158, Tryz.ntmps158
  go_wp2_with fail
  refine (ti_at _ HB.out _).mono ?_
  rintro e w2 ⟨rfl, rfl⟩
  cases b with
  | false =>
    have HV := Lib.hid (show ¬ PlR need start L from fun h => by have h2 := h.1; rw [HB.out] at h2; cases h2)
    go_wp2
    go_ret
    exact resB_no HV.out (Below.refl _ _)
  | true =>
    by_cases hl : (L.length : Int) = need
    · have hl' : ((L.length : Int) == need) = true := beq_iff_eq.2 hl
      have HL := Lib.hid hl
      clear hl
      go_wp2_with fail
      refine (nodes_impl H.out).mono ?_
      intro e w3 h
      obtain ⟨b, rfl, hb, hw⟩ := resB_elim h
      have HV := Lib.hid (show (b = true ↔ PlR need start L) from hb.trans ⟨fun hN => ⟨HB.out, HL.out, hN⟩, fun h => h.2.2⟩)
      have HW := Lib.hid hw
      clear h hb hw
      go_wp2
      go_ret
      exact ⟨b, rfl, HV.out, HW.out⟩
    · have hl' : ((L.length : Int) == need) = false := beq_eq_false_iff_ne.2 hl
      have HV := Lib.hid (show ¬ PlR need start L from fun h => hl h.2.1)
      go_wp2
      go_ret
      exact resB_no HV.out (Below.refl _ _)
set_option maxRecDepth 100000 in
set_option maxHeartbeats 3200000 in
theorem dep_impl {x0 x1 x2 : Int} {x3 : ByteArray} {x4 x5 x6 x7 x8 x9 x10 x11 x12 : Int} {L : List Int} {a : Option Addr} {c : Nat} {W : World} : Calls Tryz.prog 127 #[.agg #[.int .i64 x0, .int .i64 x1, .int .i64 x2, .string x3, .int .i64 x4, .int .i64 x5, .int .i64 x6, .int .i64 x7, .int .i64 x8, .int .i64 x9, .int .i64 x10, .int .i64 x11, .int .i64 x12, .slice a L.length c]] W (ResB (DepR x0 x1 x2 x7 x8 x9) W) := by
  have HB0 := Lib.hid (show Below W.heap.size W (W.alloc (.cells #[.int .i64 x0, .int .i64 x1, .int .i64 x2, .string x3, .int .i64 x4, .int .i64 x5, .int .i64 x6, .int .i64 x7, .int .i64 x8, .int .i64 x9, .int .i64 x10, .int .i64 x11, .int .i64 x12, .slice a L.length c] 66)) from (Below.refl _ _).alloc (Nat.le_refl _) _)
  have HP0 := Lib.hid (Blk.new W 66 #[.int .i64 x0, .int .i64 x1, .int .i64 x2, .string x3, .int .i64 x4, .int .i64 x5, .int .i64 x6, .int .i64 x7, .int .i64 x8, .int .i64 x9, .int .i64 x10, .int .i64 x11, .int .i64 x12, .slice a L.length c])
  have hz0 : W.heap.size ≤ (W.alloc (.cells #[.int .i64 x0, .int .i64 x1, .int .i64 x2, .string x3, .int .i64 x4, .int .i64 x5, .int .i64 x6, .int .i64 x7, .int .i64 x8, .int .i64 x9, .int .i64 x10, .int .i64 x11, .int .i64 x12, .slice a L.length c] 66)).heap.size := HB0.out.size
  obtain ⟨b8, h8⟩ : ∃ b, isB x9 1 12 = b := ⟨_, rfl⟩
  obtain ⟨b9, hh⟩ : ∃ b, LabC.belowB x7 x8 x0 x1 = b := ⟨_, rfl⟩
  have H8 := Lib.hid h8
  have HBB := Lib.hid hh
  clear h8 hh
  by_cases h9 : x9 = 0
  · have h9' : (x9 == 0) = true := beq_iff_eq.2 h9
    obtain ⟨q, hq⟩ : ∃ q, decide (((x7, x8) : Int × Int) = (0, 0)) = q := ⟨_, rfl⟩
    have hqq := eql_lab x7 x8 0 0 q hq
    have HQ := Lib.hid hq
    have H9 := Lib.hid h9
    clear hq h9
    cases q with
    | false =>
      have HV := Lib.hid (show ¬ DepR x0 x1 x2 x7 x8 x9 from fun h => by have h2 := h.1 H9.out; exact of_decide_eq_false HQ.out (by rw [h2.1, h2.2]))
      go_enter Tryz.func127, Tryz.ntmps127
      go_wp2
      go_ret
      exact resB_no HV.out HB0.out
    | true =>
      have HV := Lib.hid (show DepR x0 x1 x2 x7 x8 x9 from ⟨fun _ => by have h2 := of_decide_eq_true HQ.out; simpa using h2, fun h => absurd H9.out h⟩)
      go_enter Tryz.func127, Tryz.ntmps127
      go_wp2
      go_ret
      exact resB_yes HV.out HB0.out
  · have h9' : (x9 == 0) = false := beq_eq_false_iff_ne.2 h9
    have H9 := Lib.hid h9
    clear h9
    go_enter Tryz.func127, Tryz.ntmps127
    go_wp2_with fail
    refine (tid_at _ H8.out _).mono ?_
    rintro e w2 ⟨rfl, rfl⟩
    cases b8 with
    | false =>
      have HV := Lib.hid (show ¬ DepR x0 x1 x2 x7 x8 x9 from fun h => by have h2 := (h.2 H9.out).1; rw [H8.out] at h2; cases h2)
      go_wp2
      go_ret
      exact resB_no HV.out HB0.out
    | true =>
      go_wp2_with fail
      refine (belI_at _ _ _ _ HBB.out _).mono ?_
      rintro e w1 ⟨rfl, hb⟩
      have HP1 := Lib.hid (HP0.out.call hb)
      have HB1 := Lib.hid (HB0.out.trans (hb.mono hz0))
      have hz1 : W.heap.size ≤ w1.heap.size := HB1.out.size
      clear hb
      have p0 := HP1.out.at_ 0 rfl
      have p1 := HP1.out.at_ 1 rfl
      have p2 := HP1.out.at_ 2 rfl
      have p3 := HP1.out.at_ 3 rfl
      have p4 := HP1.out.at_ 4 rfl
      have p5 := HP1.out.at_ 5 rfl
      have p6 := HP1.out.at_ 6 rfl
      have p7 := HP1.out.at_ 7 rfl
      have p8 := HP1.out.at_ 8 rfl
      have p9 := HP1.out.at_ 9 rfl
      have p10 := HP1.out.at_ 10 rfl
      have p11 := HP1.out.at_ 11 rfl
      have p12 := HP1.out.at_ 12 rfl
      have p13 := HP1.out.at_ 13 rfl
      cases b9 with
      | false =>
        have HV := Lib.hid (show ¬ DepR x0 x1 x2 x7 x8 x9 from fun h => by have h2 := (h.2 H9.out).2.1; rw [HBB.out] at h2; cases h2)
        go_wp2
        go_ret
        exact resB_no HV.out HB1.out
      | true =>
        obtain ⟨q, hq⟩ : ∃ q, decide (((x7, x8) : Int × Int) = (x0, x1)) = q := ⟨_, rfl⟩
        have hqq := neq_lab x7 x8 x0 x1 q hq
        have HQ := Lib.hid hq
        clear hq
        cases q with
        | false =>
          have HV := Lib.hid (show DepR x0 x1 x2 x7 x8 x9 from ⟨fun h => absurd h H9.out, fun _ => ⟨H8.out, HBB.out, fun h => of_decide_eq_false HQ.out (by rw [h.1.1, h.1.2])⟩⟩)
          go_wp2
          go_ret
          exact resB_yes HV.out HB1.out
        | true =>
          by_cases hle : x9 < x2
          · have hle' : decide (x9 < x2) = true := decide_eq_true hle
            have HV := Lib.hid (show DepR x0 x1 x2 x7 x8 x9 from ⟨fun h => absurd h H9.out, fun _ => ⟨H8.out, HBB.out, fun h => by have := h.2; omega⟩⟩)
            go_wp2
            go_ret
            exact resB_yes HV.out HB1.out
          · have hle' : decide (x9 < x2) = false := decide_eq_false hle
            have HV := Lib.hid (show ¬ DepR x0 x1 x2 x7 x8 x9 from fun h => (h.2 H9.out).2.2 ⟨by have h2 := of_decide_eq_true HQ.out; simpa using h2, by omega⟩)
            go_wp2
            go_ret
            exact resB_no HV.out HB1.out
set_option maxRecDepth 100000 in
set_option maxHeartbeats 3200000 in
theorem stateT_impl {x0 x1 x2 : Int} {x3 : ByteArray} {x4 x5 x6 x7 x8 x9 x10 x11 x12 : Int} {L : List Int} {a : Option Addr} {c : Nat} {W : World} (h14 : isB x4 1 6 = true) (h : RdSl I W W.heap.size L a c) : Calls Tryz.prog 128 #[.agg #[.int .i64 x0, .int .i64 x1, .int .i64 x2, .string x3, .int .i64 x4, .int .i64 x5, .int .i64 x6, .int .i64 x7, .int .i64 x8, .int .i64 x9, .int .i64 x10, .int .i64 x11, .int .i64 x12, .slice a L.length c]] W (ResB ((Has x11 L → PlR x4 x12 L) ∧ (¬ Has x11 L → NoP x12 L) ∧ (1 ≤ x11 ∧ x11 ≤ 6)) W) := by
  have hn : L.length ≤ 9223372036854775807 := by have h1 := h.1; have h2 := h.2.1; unfold maxLen at h2; omega
  have H := Lib.hid h
  clear h
  have HB0 := Lib.hid (show Below W.heap.size W (W.alloc (.cells #[.int .i64 x0, .int .i64 x1, .int .i64 x2, .string x3, .int .i64 x4, .int .i64 x5, .int .i64 x6, .int .i64 x7, .int .i64 x8, .int .i64 x9, .int .i64 x10, .int .i64 x11, .int .i64 x12, .slice a L.length c] 66)) from (Below.refl _ _).alloc (Nat.le_refl _) _)
  have HP0 := Lib.hid (Blk.new W 66 #[.int .i64 x0, .int .i64 x1, .int .i64 x2, .string x3, .int .i64 x4, .int .i64 x5, .int .i64 x6, .int .i64 x7, .int .i64 x8, .int .i64 x9, .int .i64 x10, .int .i64 x11, .int .i64 x12, .slice a L.length c])
  have hz0 : W.heap.size ≤ (W.alloc (.cells #[.int .i64 x0, .int .i64 x1, .int .i64 x2, .string x3, .int .i64 x4, .int .i64 x5, .int .i64 x6, .int .i64 x7, .int .i64 x8, .int .i64 x9, .int .i64 x10, .int .i64 x11, .int .i64 x12, .slice a L.length c] 66)).heap.size := HB0.out.size
  obtain ⟨b0, h0⟩ : ∃ b, nopB x12 L = b := ⟨_, rfl⟩
  have H0 := Lib.hid h0
  clear h0
  have HN := Lib.hid hn
  have HN4 := Lib.hid h14
  clear h14
  by_cases h2 : x11 = 2
  · have h2' : (x11 == 2) = true := beq_iff_eq.2 h2
    have HS := Lib.hid (show Has x11 L from .inl h2)
    have HR := Lib.hid (show 1 ≤ x11 ∧ x11 ≤ 6 from by omega)
    clear h2
    go_enter Tryz.func128, Tryz.ntmps128
    go_wp2_with fail
    refine (place_impl x4 x12 ((H.out.below I_ok HB0.out).more I_ok hz0)).mono ?_
    intro e w3 h
    obtain ⟨b, rfl, hb, hw⟩ := resB_elim h
    have HB := Lib.hid (HB0.out.trans (hw.mono hz0))
    have HV := Lib.hid (show (b = true ↔ ((Has x11 L → PlR x4 x12 L) ∧ (¬ Has x11 L → NoP x12 L) ∧ (1 ≤ x11 ∧ x11 ≤ 6))) from hb.trans ⟨fun h => ⟨fun _ => h, fun h => absurd HS.out h, HR.out⟩, fun h => h.1 HS.out⟩)
    clear h hb hw
    go_wp2
    go_ret
    exact ⟨b, rfl, HV.out, HB.out⟩
  · have h2' : (x11 == 2) = false := beq_eq_false_iff_ne.2 h2
    by_cases h1 : x11 = 1
    · have h1' : (x11 == 1) = true := beq_iff_eq.2 h1
      have HR := Lib.hid (show 1 ≤ x11 ∧ x11 ≤ 6 from by omega)
      have HE := Lib.hid (show Has x11 L ↔ 0 < L.length from ⟨fun h => h.elim (fun h => absurd h h2) (fun h => h.2), fun h => .inr ⟨h1, h⟩⟩)
      clear h1 h2
      go_enter Tryz.func128, Tryz.ntmps128
      go_wp2_with fail
      refine (nop_at x12 H0.out HN.out _).mono ?_
      rintro e w2 ⟨rfl, rfl⟩
      cases b0 with
      | true =>
        have HV := Lib.hid (show ((Has x11 L → PlR x4 x12 L) ∧ (¬ Has x11 L → NoP x12 L) ∧ (1 ≤ x11 ∧ x11 ≤ 6)) from by have h3 := nopB_iff.1 H0.out; exact ⟨fun h => by have h4 := HE.out.1 h; have h5 := h3.2; omega, fun _ => h3, HR.out⟩)
        go_wp2
        go_ret
        exact resB_yes HV.out HB0.out
      | false =>
        go_wp2_with fail
        refine (place_impl x4 x12 ((H.out.below I_ok HB0.out).more I_ok hz0)).mono ?_
        intro e w3 h
        obtain ⟨b, rfl, hb, hw⟩ := resB_elim h
        have HB := Lib.hid (HB0.out.trans (hw.mono hz0))
        have HV := Lib.hid (show (b = true ↔ ((Has x11 L → PlR x4 x12 L) ∧ (¬ Has x11 L → NoP x12 L) ∧ (1 ≤ x11 ∧ x11 ≤ 6))) from hb.trans ⟨fun h => ⟨fun _ => h, fun h2 => by exfalso; apply h2; apply HE.out.2; by_cases hl : 0 < L.length; exact hl; exfalso; have h8 := h.2.1; have h9 := (isB_iff _ _ _).1 HN4.out; omega, HR.out⟩, fun h => h.1 (HE.out.2 (by by_cases hl : 0 < L.length; exact hl; exfalso; have h4 := h.2.1 (fun h5 => hl (HE.out.1 h5)); have h6 := nopB_iff.2 h4; rw [H0.out] at h6; cases h6))⟩)
        clear h hb hw
        go_wp2
        go_ret
        exact ⟨b, rfl, HV.out, HB.out⟩
    · have h1' : (x11 == 1) = false := beq_eq_false_iff_ne.2 h1
      have HS := Lib.hid (show ¬ Has x11 L from fun h => h.elim h2 (fun h => h1 h.1))
      by_cases h3 : x11 = 3
      · have h3' : (x11 == 3) = true := beq_iff_eq.2 h3
        have h4' : (x11 == 4) = false := beq_eq_false_iff_ne.2 (by omega)
        have h5' : (x11 == 5) = false := beq_eq_false_iff_ne.2 (by omega)
        have h6' : (x11 == 6) = false := beq_eq_false_iff_ne.2 (by omega)
        have HR := Lib.hid (show 1 ≤ x11 ∧ x11 ≤ 6 from by omega)
        clear h3 h1 h2
        go_enter Tryz.func128, Tryz.ntmps128
        go_wp2_with fail
        refine (nop_at x12 H0.out HN.out _).mono ?_
        rintro e w2 ⟨rfl, rfl⟩
        cases b0 with
        | true =>
          have HV := Lib.hid (show ((Has x11 L → PlR x4 x12 L) ∧ (¬ Has x11 L → NoP x12 L) ∧ (1 ≤ x11 ∧ x11 ≤ 6)) from ⟨fun h => absurd h HS.out, fun _ => nopB_iff.1 H0.out, HR.out⟩)
          go_wp2
          go_ret
          exact resB_yes HV.out HB0.out
        | false =>
          have HV := Lib.hid (show ¬ ((Has x11 L → PlR x4 x12 L) ∧ (¬ Has x11 L → NoP x12 L) ∧ (1 ≤ x11 ∧ x11 ≤ 6)) from fun h => by have h6 := nopB_iff.2 (h.2.1 HS.out); rw [H0.out] at h6; cases h6)
          go_wp2
          go_ret
          exact resB_no HV.out HB0.out
      have h3' : (x11 == 3) = false := beq_eq_false_iff_ne.2 h3
      by_cases h4 : x11 = 4
      · have h4' : (x11 == 4) = true := beq_iff_eq.2 h4
        have h5' : (x11 == 5) = false := beq_eq_false_iff_ne.2 (by omega)
        have h6' : (x11 == 6) = false := beq_eq_false_iff_ne.2 (by omega)
        have HR := Lib.hid (show 1 ≤ x11 ∧ x11 ≤ 6 from by omega)
        clear h4 h1 h2
        go_enter Tryz.func128, Tryz.ntmps128
        go_wp2_with fail
        refine (nop_at x12 H0.out HN.out _).mono ?_
        rintro e w2 ⟨rfl, rfl⟩
        cases b0 with
        | true =>
          have HV := Lib.hid (show ((Has x11 L → PlR x4 x12 L) ∧ (¬ Has x11 L → NoP x12 L) ∧ (1 ≤ x11 ∧ x11 ≤ 6)) from ⟨fun h => absurd h HS.out, fun _ => nopB_iff.1 H0.out, HR.out⟩)
          go_wp2
          go_ret
          exact resB_yes HV.out HB0.out
        | false =>
          have HV := Lib.hid (show ¬ ((Has x11 L → PlR x4 x12 L) ∧ (¬ Has x11 L → NoP x12 L) ∧ (1 ≤ x11 ∧ x11 ≤ 6)) from fun h => by have h6 := nopB_iff.2 (h.2.1 HS.out); rw [H0.out] at h6; cases h6)
          go_wp2
          go_ret
          exact resB_no HV.out HB0.out
      have h4' : (x11 == 4) = false := beq_eq_false_iff_ne.2 h4
      by_cases h5 : x11 = 5
      · have h5' : (x11 == 5) = true := beq_iff_eq.2 h5
        have h6' : (x11 == 6) = false := beq_eq_false_iff_ne.2 (by omega)
        have HR := Lib.hid (show 1 ≤ x11 ∧ x11 ≤ 6 from by omega)
        clear h5 h1 h2
        go_enter Tryz.func128, Tryz.ntmps128
        go_wp2_with fail
        refine (nop_at x12 H0.out HN.out _).mono ?_
        rintro e w2 ⟨rfl, rfl⟩
        cases b0 with
        | true =>
          have HV := Lib.hid (show ((Has x11 L → PlR x4 x12 L) ∧ (¬ Has x11 L → NoP x12 L) ∧ (1 ≤ x11 ∧ x11 ≤ 6)) from ⟨fun h => absurd h HS.out, fun _ => nopB_iff.1 H0.out, HR.out⟩)
          go_wp2
          go_ret
          exact resB_yes HV.out HB0.out
        | false =>
          have HV := Lib.hid (show ¬ ((Has x11 L → PlR x4 x12 L) ∧ (¬ Has x11 L → NoP x12 L) ∧ (1 ≤ x11 ∧ x11 ≤ 6)) from fun h => by have h6 := nopB_iff.2 (h.2.1 HS.out); rw [H0.out] at h6; cases h6)
          go_wp2
          go_ret
          exact resB_no HV.out HB0.out
      have h5' : (x11 == 5) = false := beq_eq_false_iff_ne.2 h5
      by_cases h6 : x11 = 6
      · have h6' : (x11 == 6) = true := beq_iff_eq.2 h6
        have HR := Lib.hid (show 1 ≤ x11 ∧ x11 ≤ 6 from by omega)
        clear h6 h1 h2
        go_enter Tryz.func128, Tryz.ntmps128
        go_wp2_with fail
        refine (nop_at x12 H0.out HN.out _).mono ?_
        rintro e w2 ⟨rfl, rfl⟩
        cases b0 with
        | true =>
          have HV := Lib.hid (show ((Has x11 L → PlR x4 x12 L) ∧ (¬ Has x11 L → NoP x12 L) ∧ (1 ≤ x11 ∧ x11 ≤ 6)) from ⟨fun h => absurd h HS.out, fun _ => nopB_iff.1 H0.out, HR.out⟩)
          go_wp2
          go_ret
          exact resB_yes HV.out HB0.out
        | false =>
          have HV := Lib.hid (show ¬ ((Has x11 L → PlR x4 x12 L) ∧ (¬ Has x11 L → NoP x12 L) ∧ (1 ≤ x11 ∧ x11 ≤ 6)) from fun h => by have h6 := nopB_iff.2 (h.2.1 HS.out); rw [H0.out] at h6; cases h6)
          go_wp2
          go_ret
          exact resB_no HV.out HB0.out
      have h6' : (x11 == 6) = false := beq_eq_false_iff_ne.2 h6
      have HR := Lib.hid (show ¬ (1 ≤ x11 ∧ x11 ≤ 6) from by omega)
      clear h1 h2 h3 h4 h5 h6
      have HV := Lib.hid (show ¬ ((Has x11 L → PlR x4 x12 L) ∧ (¬ Has x11 L → NoP x12 L) ∧ (1 ≤ x11 ∧ x11 ≤ 6)) from fun h => HR.out h.2.2)
      go_enter Tryz.func128, Tryz.ntmps128
      go_wp2
      go_ret
      exact resB_no HV.out HB0.out
theorem wishI_at {x3 x4 x5 : Int} {b : Bool} (hb : (isB x3 1 6 && (isB x4 1 20 && isB x5 0 9)) = b) (W : World) : Calls Tryz.prog 126 #[.int .i64 x3, .int .i64 x4, .int .i64 x5] W fun e w' => e = .returned (.bool b) ∧ W = w' := wish_impl hb W
theorem taskR_of (x0 x1 x2 : Int) (x3 : ByteArray) (x4 x5 x6 x7 x8 x9 x10 x11 x12 : Int) (L : List Int)  : TaskR ((x0, x1), x2, x3, x4, x5, x6, (x7, x8), x9, x10, x11, x12, L) ↔ LabC.rB x0 x1 = true ∧ isB x2 1 12 = true ∧ nameB x3 = true ∧ (isB x4 1 6 && (isB x5 1 20 && isB x6 0 9)) = true ∧ DepR x0 x1 x2 x7 x8 x9 ∧ isB x10 0 999900 = true ∧ ((Has x11 L → PlR x4 x12 L) ∧ (¬ Has x11 L → NoP x12 L) ∧ (1 ≤ x11 ∧ x11 ≤ 6)) := by
  show _ ∧ _ ∧ _ ∧ _ ∧ _ ∧ _ ∧ _ ∧ _ ∧ _ ∧ _ ∧ _ ↔ _
  simp only [Bool.and_eq_true]
  constructor
  · rintro ⟨h0, h1, h2, h3, h4, h5, h6, h7, h8, h9, h10⟩
    exact ⟨h0, h1, h2, ⟨h3, h4, h5⟩, h8, h6, h9, h10, (isB_iff _ _ _).1 h7⟩
  · rintro ⟨h0, h1, h2, ⟨h3, h4, h5⟩, h8, h6, h9, h10, h7⟩
    exact ⟨h0, h1, h2, h3, h4, h5, h6, (isB_iff _ _ _).2 h7, h8, h9, h10⟩
set_option maxRecDepth 100000 in
set_option maxHeartbeats 3200000 in
theorem taskP_impl {x0 x1 x2 : Int} {x3 : ByteArray} {x4 x5 x6 x7 x8 x9 x10 x11 x12 : Int} {L : List Int} {a : Option Addr} {c : Nat} {W : World} (b_x3 : x3.size ≤ maxLen) (h : RdSl I W W.heap.size L a c) : Calls Tryz.prog 73 #[.agg #[.int .i64 x0, .int .i64 x1, .int .i64 x2, .string x3, .int .i64 x4, .int .i64 x5, .int .i64 x6, .int .i64 x7, .int .i64 x8, .int .i64 x9, .int .i64 x10, .int .i64 x11, .int .i64 x12, .slice a L.length c]] W (ResB (TaskR ((x0, x1), x2, x3, x4, x5, x6, (x7, x8), x9, x10, x11, x12, L)) W) := by
  have hn : L.length ≤ 9223372036854775807 := by have h1 := h.1; have h2 := h.2.1; unfold maxLen at h2; omega
  have H := Lib.hid h
  clear h
  have HX3 := Lib.hid b_x3
  unfold maxLen at b_x3
  have HB0 := Lib.hid (show Below W.heap.size W (W.alloc (.cells #[.int .i64 x0, .int .i64 x1, .int .i64 x2, .string x3, .int .i64 x4, .int .i64 x5, .int .i64 x6, .int .i64 x7, .int .i64 x8, .int .i64 x9, .int .i64 x10, .int .i64 x11, .int .i64 x12, .slice a L.length c] 66)) from (Below.refl _ _).alloc (Nat.le_refl _) _)
  have HP0 := Lib.hid (Blk.new W 66 #[.int .i64 x0, .int .i64 x1, .int .i64 x2, .string x3, .int .i64 x4, .int .i64 x5, .int .i64 x6, .int .i64 x7, .int .i64 x8, .int .i64 x9, .int .i64 x10, .int .i64 x11, .int .i64 x12, .slice a L.length c])
  have hz0 : W.heap.size ≤ (W.alloc (.cells #[.int .i64 x0, .int .i64 x1, .int .i64 x2, .string x3, .int .i64 x4, .int .i64 x5, .int .i64 x6, .int .i64 x7, .int .i64 x8, .int .i64 x9, .int .i64 x10, .int .i64 x11, .int .i64 x12, .slice a L.length c] 66)).heap.size := HB0.out.size
  have JO := Lib.hid (taskR_of x0 x1 x2 x3 x4 x5 x6 x7 x8 x9 x10 x11 x12 L)
  obtain ⟨b0, h0⟩ : ∃ b, LabC.rB x0 x1 = b := ⟨_, rfl⟩
  have H0 := Lib.hid h0
  clear h0
  obtain ⟨b1, h1⟩ : ∃ b, isB x2 1 12 = b := ⟨_, rfl⟩
  have H1 := Lib.hid h1
  clear h1
  obtain ⟨b2, h2⟩ : ∃ b, nameB x3 = b := ⟨_, rfl⟩
  have H2 := Lib.hid h2
  clear h2
  obtain ⟨b3, h3⟩ : ∃ b, (isB x4 1 6 && (isB x5 1 20 && isB x6 0 9)) = b := ⟨_, rfl⟩
  have H3 := Lib.hid h3
  clear h3
  obtain ⟨b5, h5⟩ : ∃ b, isB x10 0 999900 = b := ⟨_, rfl⟩
  have H5 := Lib.hid h5
  clear h5
  go_enter Tryz.func73, Tryz.ntmps73
  go_wp2_with fail
  refine (labi_below x0 x1 H0.out _).mono ?_
  rintro e w1 ⟨rfl, hb⟩
  have HP1 := Lib.hid (HP0.out.call hb)
  have HB1 := Lib.hid (HB0.out.trans (hb.mono hz0))
  have hz1 : W.heap.size ≤ w1.heap.size := HB1.out.size
  clear hb
  have p0 := HP1.out.at_ 0 rfl
  have p1 := HP1.out.at_ 1 rfl
  have p2 := HP1.out.at_ 2 rfl
  have p3 := HP1.out.at_ 3 rfl
  have p4 := HP1.out.at_ 4 rfl
  have p5 := HP1.out.at_ 5 rfl
  have p6 := HP1.out.at_ 6 rfl
  have p7 := HP1.out.at_ 7 rfl
  have p8 := HP1.out.at_ 8 rfl
  have p9 := HP1.out.at_ 9 rfl
  have p10 := HP1.out.at_ 10 rfl
  have p11 := HP1.out.at_ 11 rfl
  have p12 := HP1.out.at_ 12 rfl
  have p13 := HP1.out.at_ 13 rfl
  clear HP0 HB0
  cases b0 with
  | false =>
    have HV := Lib.hid (show ¬ TaskR ((x0, x1), x2, x3, x4, x5, x6, (x7, x8), x9, x10, x11, x12, L) from fun h => by have h2 := (JO.out.1 h).1; rw [H0.out] at h2; cases h2)
    go_wp2
    go_ret
    exact resB_no HV.out HB1.out
  | true =>
    go_wp2_with fail
    refine (tid_at _ H1.out _).mono ?_
    rintro e w2 ⟨rfl, rfl⟩
    cases b1 with
    | false =>
      have HV := Lib.hid (show ¬ TaskR ((x0, x1), x2, x3, x4, x5, x6, (x7, x8), x9, x10, x11, x12, L) from fun h => by have h2 := (JO.out.1 h).2.1; rw [H1.out] at h2; cases h2)
      go_wp2
      go_ret
      exact resB_no HV.out HB1.out
    | true =>
      go_wp2_with fail
      refine (nameI_at HX3.out H2.out _).mono ?_
      rintro e w2 ⟨rfl, rfl⟩
      cases b2 with
      | false =>
        have HV := Lib.hid (show ¬ TaskR ((x0, x1), x2, x3, x4, x5, x6, (x7, x8), x9, x10, x11, x12, L) from fun h => by have h2 := (JO.out.1 h).2.2.1; rw [H2.out] at h2; cases h2)
        go_wp2
        go_ret
        exact resB_no HV.out HB1.out
      | true =>
        go_wp2_with fail
        refine (wishI_at H3.out _).mono ?_
        rintro e w2 ⟨rfl, rfl⟩
        cases b3 with
        | false =>
          have HV := Lib.hid (show ¬ TaskR ((x0, x1), x2, x3, x4, x5, x6, (x7, x8), x9, x10, x11, x12, L) from fun h => by have h2 := (JO.out.1 h).2.2.2.1; rw [H3.out] at h2; cases h2)
          go_wp2
          go_ret
          exact resB_no HV.out HB1.out
        | true =>
          have HN4 := Lib.hid (show isB x4 1 6 = true from by have h2 := H3.out; simp only [Bool.and_eq_true] at h2; exact h2.1)
          go_wp2_with fail
          refine (dep_impl (x3 := x3) (L := L) (a := a) (c := c)).mono ?_
          intro e w2 h
          obtain ⟨d, rfl, hd, hb⟩ := resB_elim h
          have HD := Lib.hid hd
          clear h hd
          have HP2 := Lib.hid (HP1.out.call hb)
          have HB2 := Lib.hid (HB1.out.trans (hb.mono hz1))
          have hz2 : W.heap.size ≤ w2.heap.size := HB2.out.size
          clear hb
          clear p0 p1 p2 p3 p4 p5 p6 p7 p8 p9 p10 p11 p12 p13
          have p0 := HP2.out.at_ 0 rfl
          have p1 := HP2.out.at_ 1 rfl
          have p2 := HP2.out.at_ 2 rfl
          have p3 := HP2.out.at_ 3 rfl
          have p4 := HP2.out.at_ 4 rfl
          have p5 := HP2.out.at_ 5 rfl
          have p6 := HP2.out.at_ 6 rfl
          have p7 := HP2.out.at_ 7 rfl
          have p8 := HP2.out.at_ 8 rfl
          have p9 := HP2.out.at_ 9 rfl
          have p10 := HP2.out.at_ 10 rfl
          have p11 := HP2.out.at_ 11 rfl
          have p12 := HP2.out.at_ 12 rfl
          have p13 := HP2.out.at_ 13 rfl
          cases d with
          | false =>
            have HV := Lib.hid (show ¬ TaskR ((x0, x1), x2, x3, x4, x5, x6, (x7, x8), x9, x10, x11, x12, L) from fun h => by have h2 := HD.out.2 (JO.out.1 h).2.2.2.2.1; cases h2)
            go_wp2
            go_ret
            exact resB_no HV.out HB2.out
          | true =>
            go_wp2_with fail
            refine (nowI_at _ H5.out _).mono ?_
            rintro e w3 ⟨rfl, rfl⟩
            cases b5 with
            | false =>
              have HV := Lib.hid (show ¬ TaskR ((x0, x1), x2, x3, x4, x5, x6, (x7, x8), x9, x10, x11, x12, L) from fun h => by have h2 := (JO.out.1 h).2.2.2.2.2.1; rw [H5.out] at h2; cases h2)
              go_wp2
              go_ret
              exact resB_no HV.out HB2.out
            | true =>
              go_wp2_with fail
              refine (stateT_impl (x3 := x3) HN4.out ((H.out.below I_ok HB2.out).more I_ok hz2)).mono ?_
              intro e w4 h
              obtain ⟨b, rfl, hb, hw⟩ := resB_elim h
              have HB := Lib.hid (HB2.out.trans (hw.mono hz2))
              have HV := Lib.hid (show (b = true ↔ TaskR ((x0, x1), x2, x3, x4, x5, x6, (x7, x8), x9, x10, x11, x12, L)) from hb.trans ⟨fun hS => JO.out.2 ⟨H0.out, H1.out, H2.out, H3.out, (by simpa using HD.out), H5.out, hS⟩, fun h => (JO.out.1 h).2.2.2.2.2.2⟩)
              clear h hb hw
              go_wp2
              go_ret
              exact ⟨b, rfl, HV.out, HB.out⟩
end Go.Proofs.YtelhmacfljffhabGreat.RepC
end
section
namespace Go.Proofs.YtelhmacfljffhabGreat.RepC
open Go.ChangeShapes Go.WideShapes Go.ChangeAt Go.RowKit Go.Joins Go.Deep RowC ValC
set_option maxRecDepth 100000
set_option linter.unusedVariables false
set_option linter.unusedSimpArgs false
theorem c_String : Tryz.prog.cellsOf 9 = 1 := by kernel_rfl
theorem opn_String : Opn St 9 := fun enc W fuel cs y h => by
  obtain ⟨s, rfl, _, hw⟩ := DataW.trod_string Tryz.underlying9 h
  exact ⟨s, rfl, hw⟩
theorem open_labw {H : Type} {enc : TypeId × Value → H} {W : World} {base : Nat} {v : Value} {d : DataW H} {p : List MemPlace} (o : Value.okWide Tryz.prog W .any base 33 v) (h : DataW.Trod enc Tryz.prog W 0 (fun _ => true) true 33 v d p) :
    ∃ l s : Int, v = .agg #[.int .i64 l, .int .i64 s] ∧ (Lit.int .i64 l).wf = true ∧ (Lit.int .i64 s).wf = true := by
  obtain ⟨cs, rfl, hsz⟩ := okWide_struct Tryz.underlying33 o
  obtain ⟨fuel, hf⟩ := h
  obtain ⟨xs, n, _, _, hl, hlen, hf⟩ := DataW.trod_struct Tryz.underlying33 hf
  rw [c_Label] at hl
  obtain ⟨ls⟩ := cs
  match ls, hl with
  | [c0, c1], _ =>
    have e2 : xs.length = 2 := hlen
    match xs, e2 with
    | [z0, z1], _ =>
      have g0 := fld hf 0 2 0 1 rfl c_int64
      have g1 := fld hf 1 2 1 1 rfl c_int64
      obtain ⟨l, e0, _, w0⟩ := DataW.trod_int Tryz.underlying2 g0
      obtain ⟨s, e1, _, w1⟩ := DataW.trod_int Tryz.underlying2 g1
      obtain rfl : c0 = _ := by simpa [Value.cells] using e0
      obtain rfl : c1 = _ := by simpa [Value.cells] using e1
      exact ⟨l, s, rfl, w0, w1⟩
theorem c_Use : Tryz.prog.cellsOf 102 = 4 := by kernel_rfl
theorem opn_Use : Opn R_Use 102 := fun enc W fuel cs y h => by
  obtain ⟨xs, n, _, _, hl, hlen, hf⟩ := DataW.trod_struct Tryz.underlying102 h
  rw [c_Use] at hl
  match cs, hl with
  | [c0, c1, c2, c3], _ =>
    have e2 : xs.length = 3 := hlen
    match xs, e2 with
    | [y0, y1, y2], _ =>
      have g0 := fld hf 0 33 0 2 rfl c_Label
      have g1 := fld hf 1 9 2 1 rfl c_String
      have g2 := fld hf 2 2 3 1 rfl c_int64
      obtain ⟨d0, h0⟩ := opn_Label enc W n [c0, c1] y0 g0
      obtain ⟨d1, h1⟩ := opn_String enc W n [c2] y1 g1
      obtain ⟨d2, h2⟩ := opn_i64 enc W n [c3] y2 g2
      exact ⟨(d0, d1, d2), ⟨[c0, c1], [c2, c3], rfl, h0, ⟨[c2], [c3], rfl, h1, h2⟩⟩⟩
theorem c_UseS : Tryz.prog.cellsOf 29 = 1 := by kernel_rfl
theorem opn_UseS : Opn (Sl R_Use) 29 := opn_sl opn_Use (by decide) Tryz.underlying29 c_Use
end Go.Proofs.YtelhmacfljffhabGreat.RepC
end
section
namespace Go.Proofs.YtelhmacfljffhabGreat.RepC
open Go.ChangeShapes Go.WideShapes Go.ChangeAt Go.RowKit Go.Joins Go.Deep RowC ValC
set_option maxRecDepth 100000
set_option linter.unusedVariables false
set_option linter.unusedSimpArgs false
theorem c_Task : Tryz.prog.cellsOf 99 = 14 := by kernel_rfl
theorem opn_Task : Opn R_Task 99 := fun enc W fuel cs y h => by
  obtain ⟨xs, n, _, _, hl, hlen, hf⟩ := DataW.trod_struct Tryz.underlying99 h
  rw [c_Task] at hl
  match cs, hl with
  | [c0, c1, c2, c3, c4, c5, c6, c7, c8, c9, c10, c11, c12, c13], _ =>
    have e2 : xs.length = 12 := hlen
    match xs, e2 with
    | [y0, y1, y2, y3, y4, y5, y6, y7, y8, y9, y10, y11], _ =>
      have g0 := fld hf 0 33 0 2 rfl c_Label
      have g1 := fld hf 1 2 2 1 rfl c_int64
      have g2 := fld hf 2 9 3 1 rfl c_String
      have g3 := fld hf 3 2 4 1 rfl c_int64
      have g4 := fld hf 4 2 5 1 rfl c_int64
      have g5 := fld hf 5 2 6 1 rfl c_int64
      have g6 := fld hf 6 33 7 2 rfl c_Label
      have g7 := fld hf 7 2 9 1 rfl c_int64
      have g8 := fld hf 8 2 10 1 rfl c_int64
      have g9 := fld hf 9 2 11 1 rfl c_int64
      have g10 := fld hf 10 2 12 1 rfl c_int64
      have g11 := fld hf 11 64 13 1 rfl c_i64s
      obtain ⟨d0, h0⟩ := opn_Label enc W n [c0, c1] y0 g0
      obtain ⟨d1, h1⟩ := opn_i64 enc W n [c2] y1 g1
      obtain ⟨d2, h2⟩ := opn_String enc W n [c3] y2 g2
      obtain ⟨d3, h3⟩ := opn_i64 enc W n [c4] y3 g3
      obtain ⟨d4, h4⟩ := opn_i64 enc W n [c5] y4 g4
      obtain ⟨d5, h5⟩ := opn_i64 enc W n [c6] y5 g5
      obtain ⟨d6, h6⟩ := opn_Label enc W n [c7, c8] y6 g6
      obtain ⟨d7, h7⟩ := opn_i64 enc W n [c9] y7 g7
      obtain ⟨d8, h8⟩ := opn_i64 enc W n [c10] y8 g8
      obtain ⟨d9, h9⟩ := opn_i64 enc W n [c11] y9 g9
      obtain ⟨d10, h10⟩ := opn_i64 enc W n [c12] y10 g10
      obtain ⟨d11, h11⟩ := opn_i64s enc W n [c13] y11 g11
      exact ⟨(d0, d1, d2, d3, d4, d5, d6, d7, d8, d9, d10, d11), ⟨[c0, c1], [c2, c3, c4, c5, c6, c7, c8, c9, c10, c11, c12, c13], rfl, h0, ⟨[c2], [c3, c4, c5, c6, c7, c8, c9, c10, c11, c12, c13], rfl, h1, ⟨[c3], [c4, c5, c6, c7, c8, c9, c10, c11, c12, c13], rfl, h2, ⟨[c4], [c5, c6, c7, c8, c9, c10, c11, c12, c13], rfl, h3, ⟨[c5], [c6, c7, c8, c9, c10, c11, c12, c13], rfl, h4, ⟨[c6], [c7, c8, c9, c10, c11, c12, c13], rfl, h5, ⟨[c7, c8], [c9, c10, c11, c12, c13], rfl, h6, ⟨[c9], [c10, c11, c12, c13], rfl, h7, ⟨[c10], [c11, c12, c13], rfl, h8, ⟨[c11], [c12, c13], rfl, h9, ⟨[c12], [c13], rfl, h10, h11⟩⟩⟩⟩⟩⟩⟩⟩⟩⟩⟩⟩
theorem c_TaskS : Tryz.prog.cellsOf 28 = 1 := by kernel_rfl
theorem opn_TaskS : Opn (Sl R_Task) 28 := opn_sl opn_Task (by decide) Tryz.underlying28 c_Task
end Go.Proofs.YtelhmacfljffhabGreat.RepC
end
section
namespace Go.Proofs.YtelhmacfljffhabGreat.RepC
open Go.RowKit RowC ValC SpanC KeptC
set_option linter.unusedVariables false
set_option linter.unusedSimpArgs false
theorem taskI_w {x : D_Task} {cs : List Value} {W : World} (h : R_Task.rd W W.heap.size x cs) : Calls Tryz.prog 73 #[.agg cs.toArray] W fun e w' => e = .returned (.bool (taskB x)) ∧ Below W.heap.size W w' := by
  obtain ⟨⟨x0, x1⟩, x2, x3, x4, x5, x6, ⟨x7, x8⟩, x9, x10, x11, x12, M⟩ := x
  obtain ⟨ba, bc, rfl, k, b⟩ := rd_Task h
  exact (taskP_impl b k).mono fun e w' h => resB_is taskB_iff h
end Go.Proofs.YtelhmacfljffhabGreat.RepC
end
section
namespace Go.Proofs.YtelhmacfljffhabGreat.PutM
open Go.RowKit
def foldN (n : Int) : Nat := if 0 ≤ n then (2 * n).toNat else (2 * -(n + 1) + 1).toNat
theorem foldN_pos {n : Int} (h : 0 ≤ n) : (2 * n) = (foldN n : Int) := by unfold foldN; rw [if_pos h]; omega
theorem foldN_neg {n : Int} (h : ¬ 0 ≤ n) : (2 * -(n + 1) + 1) = (foldN n : Int) := by unfold foldN; rw [if_neg h]; omega
theorem foldN_lt {n : Int} (h1 : -9223372036854775808 ≤ n) (h2 : n ≤ 9223372036854775807) : foldN n < 18446744073709551616 := by
  unfold foldN; split <;> omega
theorem xor_ones (x : Nat) (h : x < 18446744073709551616) : x ^^^ 18446744073709551615 = 18446744073709551615 - x := by
  have h1 : (BitVec.ofNat 64 x ^^^ BitVec.allOnes 64).toNat = (~~~ (BitVec.ofNat 64 x)).toNat := by rw [BitVec.xor_allOnes]
  rw [BitVec.toNat_xor, BitVec.toNat_not, BitVec.toNat_allOnes, BitVec.toNat_ofNat, Nat.mod_eq_of_lt (by omega)] at h1
  omega
theorem fold_bits {n : Int} (h1 : -9223372036854775808 ≤ n) (h2 : n ≤ 9223372036854775807) :
    bits .xor .u64 (IntKind.u64.wrap (IntKind.u64.wrap n * 2)) (IntKind.u64.wrap (n / 9223372036854775808)) = (foldN n : Int) := by
  simp only [IntKind.wrap_u64]
  by_cases h : 0 ≤ n
  · rw [← foldN_pos h]
    have e1 : n % 18446744073709551616 * 2 % 18446744073709551616 = ((2 * n).toNat : Int) := by omega
    have e2 : n / 9223372036854775808 % 18446744073709551616 = ((0 : Nat) : Int) := by omega
    rw [e1, e2, bits_xor_u64_nat _ _ (by omega) (by omega), Nat.xor_zero]
    omega
  · rw [← foldN_neg h]
    have e1 : n % 18446744073709551616 * 2 % 18446744073709551616 = ((2 * n + 18446744073709551616).toNat : Int) := by omega
    have e2 : n / 9223372036854775808 % 18446744073709551616 = ((18446744073709551615 : Nat) : Int) := by omega
    rw [e1, e2, bits_xor_u64_nat _ _ (by omega) (by omega), xor_ones _ (by omega)]
    omega
def enc (u : Nat) : List UInt8 := if u < 128 then [UInt8.ofNat u] else UInt8.ofNat (u % 128 + 128) :: enc (u / 128)
termination_by u
decreasing_by omega
theorem enc_lt {u : Nat} (h : u < 128) : enc u = [UInt8.ofNat u] := by rw [enc, if_pos h]
theorem enc_ge {u : Nat} (h : ¬ u < 128) : enc u = UInt8.ofNat (u % 128 + 128) :: enc (u / 128) := by rw [enc, if_neg h]
theorem enc_len : ∀ (k u : Nat), u < 128 ^ (k + 1) → 1 ≤ (enc u).length ∧ (enc u).length ≤ k + 1 := by
  intro k
  induction k with
  | zero => intro u h; rw [enc_lt (by simpa using h)]; simp
  | succ k ih =>
    intro u h
    by_cases h1 : u < 128
    · rw [enc_lt h1]; simp
    · rw [enc_ge h1]
      have := ih (u / 128) (by rw [Nat.div_lt_iff_lt_mul (by omega)]; rw [Nat.pow_succ] at h; exact h)
      simp only [List.length_cons]
      omega
theorem enc_len64 {u : Nat} (h : u < 18446744073709551616) : 1 ≤ (enc u).length ∧ (enc u).length ≤ 10 :=
  enc_len 9 u (Nat.lt_of_lt_of_le h (by decide))
theorem ofNat_toNat {u : Nat} (h : u < 256) : ((UInt8.ofNat u).toNat : Int) = (u : Int) := by
  rw [UInt8.toNat_ofNat']; omega
theorem step_ge {l : List UInt8} {z u : Nat} (he : l ++ enc z = enc u) (h : ¬ z < 128) : (l ++ [UInt8.ofNat (z % 128 + 128)]) ++ enc (z / 128) = enc u := by
  rw [← he, enc_ge h]; simp
theorem step_lt {l : List UInt8} {z u : Nat} (he : l ++ enc z = enc u) (h : z < 128) : l ++ [UInt8.ofNat z] = enc u := by
  rw [← he, enc_lt h]
theorem len_le {l : List UInt8} {z u : Nat} (he : l ++ enc z = enc u) (hz : z < 18446744073709551616) (hu : u < 18446744073709551616) : l.length ≤ 9 := by
  have h1 := congrArg List.length he
  have h2 := enc_len64 hz
  have h3 := enc_len64 hu
  rw [List.length_append] at h1
  omega
theorem byte_or (z : Nat) : bits .or .u8 (IntKind.u8.wrap (z : Int)) 128 = ((UInt8.ofNat (z % 128 + 128)).toNat : Int) := by
  have e : IntKind.u8.wrap (z : Int) = ((z % 256 : Nat) : Int) := by simp [IntKind.wrap, IntKind.bits, IntKind.signed]
  rw [e, ofNat_toNat (by omega)]
  have h : ∀ a : Fin 256, bits .or .u8 ((a.val : Nat) : Int) 128 = ((a.val % 128 + 128 : Nat) : Int) := by decide +kernel
  have := h ⟨z % 256, by omega⟩
  simp only at this
  rw [this]
  omega
def bytesOf (l : List UInt8) : ByteArray := ⟨l.toArray⟩
def encB (n : Int) : ByteArray := bytesOf (enc (foldN n))
theorem encB_size {n : Int} (h1 : -9223372036854775808 ≤ n) (h2 : n ≤ 9223372036854775807) : 1 ≤ (encB n).size ∧ (encB n).size ≤ 10 := by
  have := enc_len64 (foldN_lt h1 h2)
  simpa [encB, bytesOf, ByteArray.size] using this
end Go.Proofs.YtelhmacfljffhabGreat.PutM
end
section
namespace Go.Proofs.YtelhmacfljffhabGreat.PutC
open Go.RowKit PutM
theorem info_u8 : (Tryz.prog.info? 5).map (fun i => (i.zero, i.size, i.bytes)) = some (some (.int .u8 0), 1, 1) := by kernel_rfl
theorem ret_u64 {a b : Int} (h : a = b) : Ending.returned (.int .u64 a) = .returned (.int .u64 b) := by rw [h]
theorem ret_str {a b : ByteArray} (h : a = b) : Ending.returned (.string a) = .returned (.string b) := by rw [h]
theorem fold_spec (n : Int) (w : World) (hn : -9223372036854775808 ≤ n) (hn2 : n ≤ 9223372036854775807) :
    Calls Tryz.prog 54 #[.int .i64 n] w fun e w' => e = .returned (.int .u64 (foldN n)) ∧ w = w' := by
  by_cases h : 0 ≤ n
  · have H := Lib.hid (foldN_pos h)
    go_enter Tryz.func54, Tryz.ntmps54
    go_wp2
    go_ret
    exact ⟨ret_u64 H.out, rfl⟩
  · have H := Lib.hid (foldN_neg h)
    go_enter Tryz.func54, Tryz.ntmps54
    go_wp2
    go_ret
    exact ⟨ret_u64 H.out, rfl⟩
theorem fold_impl (n : Int) (w : World) (hn : -9223372036854775808 ≤ n) (hn2 : n ≤ 9223372036854775807) :
    Calls Tryz.prog 70 #[.int .i64 n] w fun e w' => e = .returned (.int .u64 (foldN n)) ∧ w = w' := by
  have H := Lib.hid (fold_bits hn hn2)
  go_enter Tryz.func70, Tryz.ntmps70
  go_wp2
  go_ret
  exact ⟨ret_u64 H.out, rfl⟩
def Own (B : Nat) (w : World) (v : Value) (l : List UInt8) : Prop := w.ownsRow B 5 1 v l.length (l.map fun c => .int .u8 (c.toNat : Int))
theorem one_map (l : List UInt8) (c : UInt8) : (l.map fun c => Value.int .u8 (c.toNat : Int)) ++ [Value.int .u8 (c.toNat : Int)] = (l ++ [c]).map fun c => Value.int .u8 (c.toNat : Int) := by simp
theorem conv_of_own {B : Nat} {w : World} {v : Value} {l : List UInt8} (h : w.ownsRow B 5 1 v l.length (l.map fun c => Value.int .u8 (c.toNat : Int))) (hne : l ≠ []) :
    (convert 76 9 v).run Tryz.prog w = .ok (.string (bytesOf l)) w := by
  have hc := fun g hg j u hj => World.ownsRow.cells h (g := g) hg j u hj
  rcases h with ⟨_, ⟨_, hn⟩ | ⟨g, cap, cur, rfl, _⟩⟩
  · exact absurd (List.length_eq_zero_iff.1 hn) hne
  · exact run_convert_bytes_back w 76 9 5 ⟨g, 0, none⟩ cap l Tryz.underlying76 Tryz.underlying5 Tryz.underlying9 (fun j hj => hc g rfl j _ (by simp [List.getElem?_eq_getElem hj]))
set_option maxRecDepth 100000 in
set_option maxHeartbeats 800000 in
theorem put_spec (n : Int) (w : World) (hn : -9223372036854775808 ≤ n) (hn2 : n ≤ 9223372036854775807) :
    Calls Tryz.prog 16 #[.int .i64 n] w fun e w' => e = .returned (.string (encB n)) ∧ Below w.heap.size w w' := by
  have hf := foldN_lt hn hn2
  have Hn := Lib.hid (And.intro hn hn2)
  have He : Hid (encB n = bytesOf (enc (foldN n))) := Lib.hid rfl
  obtain ⟨i0, hi, hz0, hz1, hz2⟩ := info_parts info_u8
  have H0 := Lib.hid hi
  have H1 := Lib.hid hz0
  have H2 := Lib.hid hz1
  have H3 := Lib.hid hz2
  clear hi hz0 hz1 hz2 hn hn2
  go_enter Tryz.func16, Tryz.ntmps16
  go_wp2_with (go_at_call 54; refine (fold_spec _ _ Hn.out.1 Hn.out.2).mono ?_; rintro e w' ⟨rfl, rfl⟩)
  generalize foldN n = u at *
  go_loopw [3, 4] (fun x v wr => ∃ (z : Nat) (l : List UInt8), x = .int .u64 (z : Int) ∧ z < 18446744073709551616 ∧ l ++ enc z = enc u ∧ Own w.heap.size wr v l ∧ Below w.heap.size w wr) (fun x _ _ => (intOf x).toNat)
  case atStart => exact ⟨u, [], rfl, hf, rfl, World.ownsRow_made _ _ _ (Nat.le_refl _) (by decide) (by simp), (Below.refl _ _).alloc (Nat.le_refl _) _⟩
  case round =>
    obtain ⟨z, l, rfl, hz, he, hown, hb⟩ := hrel
    have hl := len_le he hz hf
    have HE := Lib.hid he
    have HO := Lib.hid hown
    clear he hown
    by_cases hlt : z < 128
    · have Hs := Lib.hid (step_lt HE.out hlt)
      have Hz := Lib.hid (ofNat_toNat (u := z) (by omega))
      go_wp2_with (at_builtin; refine wpList_append_own _ rfl _ _ 76 rfl w.heap.size 5 i0 (.int .u8 0) 1 1 Tryz.underlying76 H0.out H1.out H2.out H3.out rfl (by decide) _ _ _ rfl (World.ownsRow.alloc HO.out _) ⟨wr.heap.size, 0, none⟩ 1 1 [_] rfl rfl (cell_one_new _ _ _) ?c1 ?c2 ?c3 ?c4 ?_)
      case c1 => intro x hx; simp at hx; subst hx; rfl
      case c2 => unfold maxLen; omega
      case c3 => omega
      case c4 => have := hb.size; simp; omega
      · intro v' w1 hown' hgrow _
        have hB := Below.grown (hb.alloc hb.size _) hgrow (by have := hb.size; simp; omega) (fun k hk => (World.ownsRow.lt HO.out k hk).1)
        rw [← Hz.out, one_map] at hown'
        have hl2 : (l ++ [UInt8.ofNat z]).length = l.length + 1 := by simp
        rw [← hl2] at hown'
        have hconv := conv_of_own hown' (by simp)
        rw [Hs.out] at hconv
        have HB := Lib.hid hB
        clear hown' hgrow hB hl2 hb
        go_wp2
        go_ret
        exact ⟨ret_str He.out.symm, HB.out⟩
    · have Hs := Lib.hid (step_ge HE.out hlt)
      have Hz := Lib.hid (ofNat_toNat (u := z % 128 + 128) (by omega))
      go_wp2_with (at_builtin; refine wpList_append_own _ rfl _ _ 76 rfl w.heap.size 5 i0 (.int .u8 0) 1 1 Tryz.underlying76 H0.out H1.out H2.out H3.out rfl (by decide) _ _ _ rfl (World.ownsRow.alloc HO.out _) ⟨wr.heap.size, 0, none⟩ 1 1 [_] rfl rfl (cell_one_new _ _ _) ?c1 ?c2 ?c3 ?c4 ?_)
      case c1 => intro x hx; simp at hx; subst hx; rfl
      case c2 => unfold maxLen; omega
      case c3 => omega
      case c4 => have := hb.size; simp; omega
      · intro v' w1 hown' hgrow _
        have hB := Below.grown (hb.alloc hb.size _) hgrow (by have := hb.size; simp; omega) (fun k hk => (World.ownsRow.lt HO.out k hk).1)
        have e1 : ((z : Int) % 128 + 128) = ((z % 128 + 128 : Nat) : Int) := by omega
        rw [e1, ← Hz.out, one_map] at hown'
        have hl2 : (l ++ [UInt8.ofNat (z % 128 + 128)]).length = l.length + 1 := by simp
        rw [← hl2] at hown'
        have HB := Lib.hid hB
        have HW := Lib.hid hown'
        clear hown' hgrow hB hl2 hb e1
        go_wp2
        go_roundw
        case rel => exact ⟨z / 128, l ++ [UInt8.ofNat (z % 128 + 128)], by go_num, by omega, Hs.out, HW.out, HB.out⟩
        case measure => simp [intOf]; omega
def Row (B : Nat) (wr : World) (l : List UInt8) : Prop :=
  (∀ j, (h : j < l.length) → wr.cell? ⟨B, j, none⟩ = some (.int .u8 (l[j].toNat : Int))) ∧ (∀ j, j < 10 → ∃ v, wr.cell? ⟨B, j, none⟩ = some v) ∧ (∀ j, wr.frozen? ⟨B, j, none⟩ = false)
theorem row_store {B : Nat} {wr : World} {l : List UInt8} (h : Row B wr l) (hl : l.length ≤ 9) (c : UInt8) : Row B (wr.setCell ⟨B, l.length, none⟩ (.int .u8 (c.toNat : Int))) (l ++ [c]) := by
  obtain ⟨h1, h2, h3⟩ := h
  refine ⟨?_, ?_, ?_⟩
  · intro j hj
    by_cases e : j = l.length
    · subst e
      obtain ⟨v, hv⟩ := h2 l.length (by omega)
      rw [World.cell?_setCell_same _ _ _ hv]
      simp
    · have hj2 : j < l.length := by simp at hj; omega
      rw [World.cell?_setCell_other _ _ _ _ (by simp <;> omega), h1 j hj2]
      simp [List.getElem_append_left hj2]
  · intro j hj
    by_cases e : j = l.length
    · subst e
      obtain ⟨v, hv⟩ := h2 l.length (by omega)
      exact ⟨_, World.cell?_setCell_same _ _ _ hv⟩
    · obtain ⟨v, hv⟩ := h2 j hj
      exact ⟨v, by rw [World.cell?_setCell_other _ _ _ _ (by simp <;> omega), hv]⟩
  · intro j
    rw [World.frozen?_setCell]
    exact h3 j
theorem row_new (w : World) : Row w.heap.size (w.alloc (.cells #[.int .u8 0, .int .u8 0, .int .u8 0, .int .u8 0, .int .u8 0, .int .u8 0, .int .u8 0, .int .u8 0, .int .u8 0, .int .u8 0] 126)) [] := by
  refine ⟨fun j h => absurd h (Nat.not_lt_zero _), ?_, ?_⟩
  · intro j hj
    rw [World.cell?_alloc_new]
    match j, hj with
    | 0, _ | 1, _ | 2, _ | 3, _ | 4, _ | 5, _ | 6, _ | 7, _ | 8, _ | 9, _ => exact ⟨_, rfl⟩
  · intro j
    exact World.frozen?_alloc_new _ _ _ _
theorem slice_at (B k : Nat) (hk : k + 1 ≤ 10) (wx : World) : (Instr.sliceAt 126 (.pointer (some ⟨B, 0, none⟩)) none (some (.int .i64 ((k : Int) + 1))) none).run Tryz.prog wx = .ok (.slice (some ⟨B, 0, none⟩) (k + 1) 10) wx := by
  have hu : Tryz.prog.underlying 126 = some (.array (Tryz.prog.arrayLen 126) (Tryz.prog.elem 126)) := by kernel_rfl
  have hl : Tryz.prog.arrayLen 126 = 10 := by kernel_rfl
  have hs : ∀ w, (sizeOf (Tryz.prog.elem 126)).run Tryz.prog w = .ok 1 w := fun _ => by kernel_rfl
  rw [run_sliceAt_array_h wx 126 _ hu .i64 _ (by omega) (by rw [hl]; omega), hs, hl]
  have e : ((k : Int) + 1).toNat = k + 1 := by omega
  rw [e]
  simp only [slicedAt, Result.andThen]
  simp [Addr.add]
theorem conv_row {B : Nat} {wr : World} {l : List UInt8} (h : Row B wr l) (cap : Nat) :
    (convert 76 9 (.slice (some ⟨B, 0, none⟩) l.length cap)).run Tryz.prog wr = .ok (.string (bytesOf l)) wr :=
  run_convert_bytes_back wr 76 9 5 ⟨B, 0, none⟩ cap l Tryz.underlying76 Tryz.underlying5 Tryz.underlying9 (fun j hj => by
    have := h.1 j hj
    cases j <;> simpa [Addr.add] using this)
set_option maxRecDepth 100000 in
set_option maxHeartbeats 800000 in
theorem put_impl (n : Int) (w : World) (hn : -9223372036854775808 ≤ n) (hn2 : n ≤ 9223372036854775807) :
    Calls Tryz.prog 27 #[.int .i64 n] w fun e w' => e = .returned (.string (encB n)) ∧ Below w.heap.size w w' := by
  have hf := foldN_lt hn hn2
  have Hn := Lib.hid (And.intro hn hn2)
  have He : Hid (encB n = bytesOf (enc (foldN n))) := Lib.hid rfl
  clear hn hn2
  go_enter Tryz.func27, Tryz.ntmps27
  go_wp2_with (go_at_call 70; refine (fold_impl _ _ Hn.out.1 Hn.out.2).mono ?_; rintro e w' ⟨rfl, rfl⟩)
  generalize foldN n = u at *
  go_loopw [4, 5] (fun x i wr => ∃ (z : Nat) (l : List UInt8), x = .int .u64 (z : Int) ∧ i = .int .i64 (l.length : Nat) ∧ z < 18446744073709551616 ∧ l ++ enc z = enc u ∧ Row w.heap.size wr l ∧ Below w.heap.size w wr) (fun x _ _ => (intOf x).toNat)
  case atStart => exact ⟨u, [], rfl, rfl, hf, rfl, row_new w, (Below.refl _ _).alloc (Nat.le_refl _) _⟩
  case round =>
    obtain ⟨z, l, rfl, rfl, hz, he, hrow, hb⟩ := hrel
    have hl := len_le he hz hf
    obtain ⟨v0, hv0⟩ := hrow.2.1 l.length (by omega)
    have hfr0 := hrow.2.2 l.length
    have HE := Lib.hid he
    have HR := Lib.hid hrow
    have HB := Lib.hid hb
    clear he hrow hb
    by_cases hlt : z < 128
    · have Hs := Lib.hid (step_lt HE.out hlt)
      have hrow2 := row_store HR.out hl (UInt8.ofNat z)
      rw [ofNat_toNat (by omega)] at hrow2
      have hconv := conv_row hrow2 10
      rw [Hs.out, ← Hs.out] at hconv
      have hsl := slice_at w.heap.size l.length (by omega)
      have hlen : (l ++ [UInt8.ofNat z]).length = l.length + 1 := by simp
      rw [hlen, Hs.out] at hconv
      clear hrow2 hlen
      go_wp2
      go_ret
      exact ⟨ret_str He.out.symm, HB.out.setCell (Nat.le_refl _) _⟩
    · have Hs := Lib.hid (step_ge HE.out hlt)
      have hrow2 := row_store HR.out hl (UInt8.ofNat (z % 128 + 128))
      have Ho := Lib.hid (byte_or z)
      have HR2 := Lib.hid hrow2
      have Hw : Hid (IntKind.u8.wrap (z : Int) = (z : Int) % 256) := Lib.hid (by simp [IntKind.wrap, IntKind.bits, IntKind.signed])
      clear hrow2
      go_wp2
      go_roundw
      case rel => exact ⟨z / 128, l ++ [UInt8.ofNat (z % 128 + 128)], by go_num, by simp, by omega, Hs.out, by rw [← Hw.out, Ho.out]; exact HR2.out, HB.out.setCell (Nat.le_refl _) _⟩
      case measure => simp [intOf]; omega
end Go.Proofs.YtelhmacfljffhabGreat.PutC
end
section
namespace Go.Proofs.YtelhmacfljffhabGreat.ShelfC
open Go.Shelf
def Tryz.lays169_ren : Go.Shelf.Ren := ⟨fun | 169 => 32 | n => n, fun | 70 => 75 | 9 => 9 | 0 => 0 | 72 => 78 | 37 => 76 | 127 => 130 | 3 => 3 | 5 => 5 | n => n, fun | n => n⟩
theorem Tryz.lays169 : Go.Proofs.Lays.n169 Tryz.prog Tryz.lays169_ren := {
  mixed := by kernel_rfl
  f169 := Tryz.func32.trans (congrArg some (by kernel_rfl))
  t0 := Tryz.underlying0
  a0 := Tryz.isAgg0
  z0 := Tryz.sizeOf0
  v0 := Tryz.zeroValue0
  t3 := Tryz.underlying3
  a3 := Tryz.isAgg3
  z3 := Tryz.sizeOf3
  v3 := Tryz.zeroValue3
  t9 := Tryz.underlying9
  a9 := Tryz.isAgg9
  z9 := Tryz.sizeOf9
  v9 := Tryz.zeroValue9
  t37 := Tryz.underlying76
  a37 := Tryz.isAgg76
  z37 := Tryz.sizeOf76
  v37 := Tryz.zeroValue76
  t70 := Tryz.underlying75
  a70 := Tryz.isAgg75
  z70 := Tryz.sizeOf75
  v70 := Tryz.zeroValue75
  t72 := Tryz.underlying78
  a72 := Tryz.isAgg78
  z72 := Tryz.sizeOf78
  v72 := Tryz.zeroValue78
  t127 := Tryz.underlying130
  a127 := Tryz.isAgg130
  z127 := Tryz.sizeOf130
  v127 := Tryz.zeroValue130 }
theorem Tryz.Builder_Extra_169 : Builder.Extra Tryz.prog Tryz.lays169_ren := {
  sizeBuilder := by kernel_rfl
  liesBuilder := by kernel_rfl
  t5 := Tryz.underlying5
  a5 := Tryz.isAgg5
  z5 := Tryz.sizeOf5
  v5 := Tryz.zeroValue5
  infoByte := by kernel_rfl
  cellsByte := by kernel_rfl
  sizeByte := by kernel_rfl
  neB5 := by decide }
open Go.RowKit in
theorem Tryz.Builder_String_any (B b : Nat) (l : List UInt8) (w : World) (h : Lib.IsBuilder 78 5 B b (Lib.byteCells l) w) (hBw : B ≤ w.heap.size) :
    Calls Tryz.prog 32 #[.pointer (some ⟨b, 0, none⟩)] w fun e w' => e = .returned (.string ⟨l.toArray⟩) ∧ Below B w w' := Any.Builder_String_any Tryz.lays169 Tryz.Builder_Extra_169 B b l w h hBw
def Tryz.laysSlC25_f164_ren : Go.Shelf.Ren := ⟨fun | 5 => 164 | 7 => 178 | n => n, fun | 22 => 2 | 3 => 3 | 4 => 4 | n => n, fun | n => n⟩
theorem Tryz.laysSlC25_f164 : Go.Proofs.SlLaysC2.n5 Tryz.prog Tryz.laysSlC25_f164_ren := {
  mixed := by kernel_rfl
  f5 := ⟨Tryz.f164.name, by decide, Tryz.func164.trans (congrArg some (by kernel_rfl))⟩
  f7 := ⟨Tryz.f178.name, by decide, Tryz.func178.trans (congrArg some (by kernel_rfl))⟩
  t3 := Tryz.underlying3
  a3 := Tryz.isAgg3
  z3 := Tryz.sizeOf3
  v3 := Tryz.zeroValue3
  t4 := Tryz.underlying4
  a4 := Tryz.isAgg4
  z4 := Tryz.sizeOf4
  v4 := Tryz.zeroValue4
  t22 := Tryz.underlying2
  a22 := Tryz.isAgg2
  z22 := Tryz.sizeOf2
  v22 := Tryz.zeroValue2 }
open Go.Lib in
theorem Tryz.cmp_Compare_int (x y : Int) (w : World) :
    Calls Tryz.prog 164 #[.int .i64 x, .int .i64 y] w fun e w' => e = .returned (.int .i64 (Lib.compareInt x y)) ∧ w' = w := AnyG.cmp_Compare_int Tryz.laysSlC25_f164 x y w
end Go.Proofs.YtelhmacfljffhabGreat.ShelfC
end
section
namespace Go.Proofs.YtelhmacfljffhabGreat.BldC
open Go.RowKit
set_option linter.unusedVariables false
theorem sizeB : (Tryz.prog.info? 78).map (·.size) = some 2 := by kernel_rfl
theorem liesB : liesAt Tryz.prog Tryz.prog.depth 78 (2 / Tryz.prog.cellsOf 78) 0 78 1 = true := by kernel_rfl
theorem byteI : (Tryz.prog.info? 5).map (fun i => (i.zero, i.size, i.bytes)) = some (some (.int .u8 0), 1, 1) := by kernel_rfl
set_option maxHeartbeats 1000000 in
set_option maxRecDepth 100000 in
theorem check_used (b : Nat) (w : World) (h0 : w.cell? ⟨b, 0, none⟩ = some (.pointer (some ⟨b, 0, none⟩))) :
    Calls Tryz.prog 69 #[.pointer (some ⟨b, 0, none⟩)] w fun e w' => e = .returned (.tuple #[]) ∧ w' = w := by
  obtain ⟨j, hj, _⟩ := Option.map_eq_some_iff.1 sizeB
  go_enter Tryz.func69, Tryz.ntmps69
  go_wp2
  rw [Lib.run_neq_ptr_same w _ Tryz.underlying75 hj]
  go_wp2
  go_end0
  exact ⟨rfl, rfl⟩
set_option maxHeartbeats 1000000 in
set_option maxRecDepth 100000 in
theorem check_fresh (b : Nat) (w : World) (h0 : w.cell? ⟨b, 0, none⟩ = some (.pointer none)) (hsh : w.shape? b = some (78, 2)) (hfz : w.frozen? ⟨b, 0, none⟩ = false) :
    Calls Tryz.prog 69 #[.pointer (some ⟨b, 0, none⟩)] w fun e w' => e = .returned (.tuple #[]) ∧ w' = w.setCell ⟨b, 0, none⟩ (.pointer (some ⟨b, 0, none⟩)) := by
  obtain ⟨j, hj, hjs⟩ := Option.map_eq_some_iff.1 sizeB
  go_enter Tryz.func69, Tryz.ntmps69
  go_wp2
  rw [Lib.run_to_unsafe w ⟨b, 0, none⟩ Tryz.underlying75 Tryz.underlying172 hj (by rw [hjs]; decide) hsh (Nat.zero_lt_succ 1)]
  simp only [Result.andThen]
  rw [Oper.upon_value]
  go_wp2
  rw [run_callFunc_extern Tryz.func124 (by kernel_rfl) (by kernel_rfl) (by kernel_rfl) (e := Extern.AbiNoEscape.same) (by kernel_rfl)]
  rw [Lib.run_noEscape]
  simp only [Result.andThen]
  rw [Oper.upon_value]
  go_wp2
  rw [Lib.run_from_unsafe w ⟨b, 0, none⟩ Tryz.underlying172 Tryz.underlying75 hj hsh liesB]
  simp only [Result.andThen]
  rw [Oper.upon_value]
  go_wp2
  go_end0
  exact ⟨rfl, rfl⟩
theorem check_any (B b : Nat) (bs : List Value) (w : World) (h : Lib.IsBuilder 78 5 B b bs w) :
    Calls Tryz.prog 69 #[.pointer (some ⟨b, 0, none⟩)] w fun e w' => e = .returned (.tuple #[]) ∧ (Lib.BuilderAt 78 5 B b (.pointer (some ⟨b, 0, none⟩)) bs w' ∧ Below B w w') := by
  rcases h with h | h
  · refine (check_fresh b w h.cell0 h.shape h.frozen0).mono ?_
    rintro e w' ⟨rfl, rfl⟩
    exact ⟨rfl, h.used _, (Below.refl B w).setCell (p := ⟨b, 0, none⟩) h.1 _⟩
  · refine (check_used b w h.cell0).mono ?_
    rintro e w' ⟨rfl, rfl⟩
    exact ⟨rfl, h, Below.refl B _⟩
set_option maxHeartbeats 2000000 in
set_option maxRecDepth 100000 in
theorem write_any (B b : Nat) (bs : List Value) (s : ByteArray) (w : World) (h : Lib.IsBuilder 78 5 B b bs w) (hlen : bs.length + s.size ≤ 140737488355328) (hBw : B ≤ w.heap.size) :
    Calls Tryz.prog 26 #[.pointer (some ⟨b, 0, none⟩), .string s] w fun e w' => e = .returned (.tuple #[.int .i64 s.size, .nilIface]) ∧ (Lib.BuilderAt 78 5 B b (.pointer (some ⟨b, 0, none⟩)) (bs ++ Lib.strCells s) w' ∧ Below B w w') := by
  obtain ⟨i0, hi, hz0, hz1, hz2⟩ := info_parts byteI
  go_enter Tryz.func26, Tryz.ntmps26
  go_wp2_with (go_at_call 69; refine (check_any B b bs _ h).mono ?_)
  rintro e w1 ⟨rfl, h1, hb1⟩
  obtain ⟨hB, v, hbk, hown, hne⟩ := h1
  have c0 : w1.cell? ⟨b, 0, none⟩ = some (.pointer (some ⟨b, 0, none⟩)) := by rw [Lib.cell_of_heap hbk]; rfl
  have c1 : w1.cell? ⟨b, 1, none⟩ = some v := by rw [Lib.cell_of_heap hbk]; rfl
  go_wp2_with (at_builtin; refine Lib.wpList_append_own_string _ rfl _ _ 76 9 rfl B 5 i0 Tryz.underlying76 Tryz.underlying9 hi hz0 hz1 hz2 _ _ _ rfl hown s rfl ?c3 ?c4 ?c5 ?_)
  case c3 => unfold maxLen; omega
  case c4 => omega
  case c5 => have := hb1.size; omega
  intro v' w2 hown' hgrow _
  have hlt : b < w1.heap.size := by
    rcases Nat.lt_or_ge b w1.heap.size with h' | h'
    · exact h'
    · simp [Array.getElem?_eq_none h'] at hbk
  have hb2 : w2.heap[b]? = some (.cells #[.pointer (some ⟨b, 0, none⟩), v] 78 (0, 0)) := by
    rw [hgrow.block b hlt (fun e => hne e.symm)]
    exact hbk
  have d0 : w2.cell? ⟨b, 0, none⟩ = some (.pointer (some ⟨b, 0, none⟩)) := by rw [Lib.cell_of_heap hb2]; rfl
  have d1 : w2.cell? ⟨b, 1, none⟩ = some v := by rw [Lib.cell_of_heap hb2]; rfl
  have f1 : w2.frozen? ⟨b, 1, none⟩ = false := Lib.frozen_of_heap hb2 1
  obtain ⟨ao, n', cap, rfl⟩ : ∃ ao n' cap, v' = .slice ao n' cap := by
    rcases hown'.2 with ⟨hv, _⟩ | ⟨g, cap, cur, hv, _⟩
    · exact ⟨_, _, _, hv⟩
    · exact ⟨_, _, _, hv⟩
  go_wp2
  go_ret2
  refine ⟨rfl, ?_, ?_⟩
  · exact Lib.BuilderAt.put (T := 78) (e := 5) hB hb2 (bs' := bs ++ Lib.strCells s) (by simpa [Lib.strCells_length] using hown') (by decide)
  · exact (hb1.grown hgrow (by have := hb1.size; omega) (fun k hk => (hown.lt k hk).1)).setCell (p := ⟨b, 1, none⟩) hB _
theorem at_below {T e : TypeId} {B b : Nat} {p : Value} {bs : List Value} {W W' : World} (h : Lib.BuilderAt T e B b p bs W) (hb : Below W.heap.size W W') : Lib.BuilderAt T e B b p bs W' := by
  have hlt := h.lt
  obtain ⟨hB, v, hv, hown, hne⟩ := h
  exact ⟨hB, v, (hb.block b hlt).trans hv, hown.kept (row := none) ⟨hb.os, hb.tape, hb.output, hb.size, fun k hk _ => hb.block k hk⟩ (Classical.em _), hne⟩
theorem is_below {T e : TypeId} {B b : Nat} {bs : List Value} {W W' : World} (h : Lib.IsBuilder T e B b bs W) (hb : Below W.heap.size W W') : Lib.IsBuilder T e B b bs W' :=
  h.elim (fun x => .inl (at_below x hb)) (fun x => .inr (at_below x hb))
theorem cells_cat (a b : ByteArray) : Lib.strCells a ++ Lib.strCells b = Lib.strCells (a ++ b) := by
  rw [Lib.strCells_eq, Lib.strCells_eq, Lib.strCells_eq, ← Lib.byteCells_append]
  simp
theorem mk_str (s : ByteArray) : (⟨s.data.toList.toArray⟩ : ByteArray) = s := by cases s; simp
theorem str_any (B b : Nat) (s : ByteArray) (w : World) (h : Lib.IsBuilder 78 5 B b (Lib.strCells s) w) (hBw : B ≤ w.heap.size) :
    Calls Tryz.prog 32 #[.pointer (some ⟨b, 0, none⟩)] w fun e w' => e = .returned (.string s) ∧ Below B w w' :=
  (ShelfC.Tryz.Builder_String_any B b s.data.toList w (by rw [Lib.strCells_eq] at h; exact h) hBw).mono fun e w' h => ⟨by rw [h.1, mk_str], h.2⟩
end Go.Proofs.YtelhmacfljffhabGreat.BldC
end
section
namespace Go.Proofs.YtelhmacfljffhabGreat.RepC
open Go.RowKit RowC ValC
set_option linter.unusedVariables false
set_option linter.unusedSimpArgs false
def i64R (n : Int) : Prop := -9223372036854775808 ≤ n ∧ n ≤ 9223372036854775807
def catL : List Int → ByteArray
  | [] => ⟨#[]⟩
  | n :: ns => PutM.encB n ++ catL ns
theorem ba_nil (b : ByteArray) : b ++ (⟨#[]⟩ : ByteArray) = b := by apply ByteArray.ext; simp
theorem ba_nil' (b : ByteArray) : (⟨#[]⟩ : ByteArray) ++ b = b := by apply ByteArray.ext; simp
theorem catL_app : ∀ (L M : List Int), catL (L ++ M) = catL L ++ catL M
  | [], M => by simp only [List.nil_append, catL, ba_nil']
  | n :: ns, M => by simp only [List.cons_append, catL, catL_app ns M, ByteArray.append_assoc]
theorem catL_step {L : List Int} {k : Nat} {x : Int} (hx : L[k]? = some x) : catL (L.take (k + 1)) = catL (L.take k) ++ PutM.encB x := by
  rw [List.take_add_one, hx, Option.toList_some, catL_app]
  simp only [catL, ba_nil]
theorem catL_size : ∀ {L : List Int}, (∀ n ∈ L, i64R n) → (catL L).size ≤ 10 * L.length
  | [], _ => Nat.le_refl _
  | n :: ns, h => by
    have h1 := catL_size (L := ns) fun m hm => h m (List.mem_cons_of_mem _ hm)
    have h2 := h n List.mem_cons_self
    have h3 := (PutM.encB_size h2.1 h2.2).2
    simp only [catL, ByteArray.size_append, List.length_cons]
    omega
theorem putS_at (n : Int) {b : ByteArray} (hb : PutM.encB n = b) (h : i64R n) (w : World) : Calls Tryz.prog 16 #[.int .i64 n] w fun e w' => e = .returned (.string b) ∧ Below w.heap.size w w' := by
  subst hb
  exact PutC.put_spec n w h.1 h.2
theorem putI_at (n : Int) {b : ByteArray} (hb : PutM.encB n = b) (h : i64R n) (w : World) : Calls Tryz.prog 27 #[.int .i64 n] w fun e w' => e = .returned (.string b) ∧ Below w.heap.size w w' := by
  subst hb
  exact PutC.put_impl n w h.1 h.2
set_option maxRecDepth 100000 in
set_option maxHeartbeats 1600000 in
theorem putnums_w {L : List Int} {a : Option Addr} {cap : Nat} {W : World} (hl : L.length ≤ 1000000) (hR : ∀ n ∈ L, i64R n) (h : RdSl I W W.heap.size L a cap) :
    Calls Tryz.prog 71 #[.slice a L.length cap] W fun e w' => e = .returned (.string (catL L)) ∧ Below W.heap.size W w' := by
  have H := Lib.hid h
  have HR := Lib.hid hR
  clear h hR
  obtain ⟨V, hV⟩ : ∃ V, V = W.alloc (.cells #[.pointer none, .slice none 0 0] 78) := ⟨_, rfl⟩
  have hbV : Below W.heap.size W V := by rw [hV]; exact (Below.refl _ _).alloc (Nat.le_refl _) _
  have HBV := Lib.hid hbV
  have HI : Hid (Lib.IsBuilder 78 5 W.heap.size W.heap.size [] V) := Lib.hid (by rw [hV]; exact (Lib.fresh_isBuilder 78 5 W))
  have HA := Lib.hid (H.out.below I_ok hbV)
  clear hbV
  go_enter Tryz.func71, Tryz.ntmps71
  go_wp2_with fail
  rw [← hV]
  clear hV
  go_loopw [8] (fun i wr => ∃ k : Nat, k ≤ L.length ∧ i = .int .i64 k ∧ Hid (Lib.IsBuilder 78 5 W.heap.size W.heap.size (Lib.strCells (catL (L.take k))) wr) ∧ Below W.heap.size W wr) (fun i _ => L.length - (intOf i).toNat)
  case atStart => exact ⟨0, Nat.zero_le _, rfl, HI, HBV.out⟩
  case round =>
    obtain ⟨k, hk, rfl, HBu, hB⟩ := hrel
    have HB := Lib.hid hB
    have hsz := hB.size
    by_cases hlt : k < L.length
    · obtain ⟨x, hx⟩ := el_some hlt
      have HST := Lib.hid (catL_step hx)
      have HRX := Lib.hid (HR.out x (List.mem_of_getElem? hx))
      have hcs : (catL (L.take k)).size ≤ 10 * L.length := Nat.le_trans (catL_size fun n hn => HR.out n (List.mem_of_mem_take hn)) (by have := List.length_take_le' k L; omega)
      obtain ⟨g, o, us, rfl, hg, hu, hr⟩ := (H.out.below I_ok hB).at_ hx
      obtain rfl : us = [_] := hr
      have hc0 : wr.cell? ⟨g, o + k, none⟩ = some (.int .i64 x) := by simpa [show I.size = 1 from rfl] using hu 0 _ rfl
      have hi0 : (0 : Int) ≤ (k : Int) := Int.natCast_nonneg _
      have hi1 : (k : Int) < (L.length : Int) := by omega
      obtain ⟨b, hb0⟩ : ∃ b, PutM.encB x = b := ⟨_, rfl⟩
      have hbs : b.size ≤ 10 := by rw [← hb0]; exact (PutM.encB_size HRX.out.1 HRX.out.2).2
      have HB0 := Lib.hid hb0
      rw [hb0] at HST
      clear hB hx hu hb0
      go_wp2_with fail
      refine (putI_at x HB0.out HRX.out _).mono ?_
      rintro e w1 ⟨rfl, hb⟩
      have HB1 := Lib.hid (HB.out.trans (hb.mono hsz))
      have HI1 := Lib.hid (BldC.is_below HBu.out hb)
      clear hb hc0
      go_wp2_with fail
      refine (BldC.write_any _ _ _ b _ HI1.out (by rw [Lib.strCells_length]; omega) HB1.out.size).mono ?_
      rintro e w2 ⟨rfl, hw, hb⟩
      have HB2 := Lib.hid (HB1.out.trans hb)
      have HI2 := Lib.hid (show Lib.IsBuilder 78 5 W.heap.size W.heap.size (Lib.strCells (catL (L.take (k + 1)))) w2 from by rw [HST.out, ← BldC.cells_cat]; exact .inr hw)
      clear hw hb
      go_wp2
      go_roundw
      case rel => exact ⟨k + 1, by omega, by go_num, HI2, HB2.out⟩
      case measure => simp [intOf]; omega
    · have hdl : decide ((k : Int) < (L.length : Int)) = false := decide_eq_false (by omega)
      obtain rfl : k = L.length := by omega
      have HBE := Lib.hid (show Lib.IsBuilder 78 5 W.heap.size W.heap.size (Lib.strCells (catL L)) wr from by have := HBu.out; rwa [List.take_length] at this)
      clear hB HBu
      go_wp2_with fail
      refine (BldC.str_any _ _ _ _ HBE.out HB.out.size).mono ?_
      rintro e w1 ⟨rfl, hb⟩
      have HB1 := Lib.hid (HB.out.trans hb)
      clear hb
      go_wp2
      go_ret
      exact ⟨rfl, HB1.out⟩
end Go.Proofs.YtelhmacfljffhabGreat.RepC
end
section
namespace Go.Proofs.YtelhmacfljffhabGreat.JoinC
open Go.RowKit PutM PutC
theorem info_size : (Tryz.prog.info? 5).map (·.size) = some 1 := by kernel_rfl
theorem under_elem : Tryz.prog.underlying 76 = some (.slice (Tryz.prog.elem 76)) := by kernel_rfl
theorem size_elem (w : World) : (sizeOf (Tryz.prog.elem 76)).run Tryz.prog w = .ok 1 w := by kernel_rfl
theorem make_bytes (w : World) (n : Int) (h0 : 0 ≤ n) (h1 : n ≤ 140737488355328) :
    ∃ w1, (Instr.makeSlice 76 (.int .i64 n) (.int .i64 n)).run Tryz.prog w = .ok (.slice (some ⟨w.heap.size, 0, none⟩) n.toNat n.toNat) w1 ∧
      (∃ cur : Array Value, cur.size = n.toNat ∧ w1.heap[w.heap.size]? = some (.cells cur 5 (0, 0))) ∧ Below w.heap.size w w1 ∧ w.heap.size < w1.heap.size := by
  obtain ⟨i, hi, hz0, hz1, hz2⟩ := info_parts info_u8
  refine ⟨_, run_make w 76 5 i _ Tryz.underlying76 hi hz0 .i64 .i64 n n h0 (Int.le_refl _) (by rw [hz2]; omega) (by omega), ?_, (Below.refl _ _).alloc (Nat.le_refl _) _, ?_⟩
  · refine ⟨_, ?_, heap_alloc_new _ _⟩
    rw [size_madeCells, hz1]
    omega
  · show _ < (w.heap.push _).size
    simp
theorem copy_str (w : World) (g o dLen dCap : Nat) (s : ByteArray) (cur : Array Value) (ty : TypeId) (hg : w.heap[g]? = some (.cells cur 5 (0, 0))) (hle : s.size ≤ dLen) (hfit : o + s.size ≤ cur.size) :
    ∃ w1, (Builtin.copy_ #[76, 9] ty #[.slice (some ⟨g, o, none⟩) dLen dCap, .string s]).run Tryz.prog w = .ok (goInt s.size) w1 ∧
      w1.heap[g]? = some (.cells (cur.toList.take o ++ Lib.byteCells s.data.toList ++ cur.toList.drop (o + s.size)).toArray 5 (0, 0)) ∧ Below g w w1 :=
  ⟨_, Lib.run_copy_row_string w 76 9 ty 5 g o dLen dCap s cur 5 Tryz.underlying76 info_size hg hle hfit, setRow_heap w g cur _ _ _ hg, below_setRow (Below.refl _ _) (Nat.le_refl _) _⟩
theorem slice_from (w : World) (g n k : Nat) (hk : k ≤ n) :
    ∃ o, (Instr.slice 76 (.slice (some ⟨g, 0, none⟩) n n) (some (.int .i64 (k : Int))) none none).run Tryz.prog w = .ok (.slice (some ⟨g, o, none⟩) (n - k) (n - k)) w ∧ (o = k ∨ (n - k = 0 ∧ o = 0)) := by
  rw [run_slice_l w 76 _ n n under_elem .i64 _ (by omega) (by omega), size_elem]
  by_cases h : n = k
  · subst h
    exact ⟨0, by simp [sliced], .inr ⟨by omega, rfl⟩⟩
  · refine ⟨k, ?_, .inl rfl⟩
    by_cases h0 : k = 0
    · subst h0
      simp [sliced, Addr.add]
    · simp [sliced, h, Addr.add, h0]
theorem two_copies (cur : List Value) (a b : ByteArray) (o : Nat) (hc : cur.length = a.size + b.size) (ho : o = a.size ∨ (b.size = 0 ∧ o = 0)) :
    (((([] ++ Lib.byteCells a.data.toList ++ cur.drop a.size)).take o) ++ Lib.byteCells b.data.toList ++ ((([] ++ Lib.byteCells a.data.toList ++ cur.drop a.size)).drop (o + b.size))) = Lib.byteCells (a.data.toList ++ b.data.toList) := by
  have la : (Lib.byteCells a.data.toList).length = a.size := by rw [Lib.byteCells_length, ← Lib.size_eq]
  have lb : (Lib.byteCells b.data.toList).length = b.size := by rw [Lib.byteCells_length, ← Lib.size_eq]
  rw [Lib.byteCells_append]
  rcases ho with rfl | ⟨h0, rfl⟩
  · rw [List.nil_append, List.take_append_of_le_length (by omega), List.take_of_length_le (by omega), List.drop_append, List.drop_of_length_le (by omega), List.nil_append, List.drop_drop, List.drop_of_length_le (by omega), List.append_nil]
  · have hb : Lib.byteCells b.data.toList = [] := List.eq_nil_of_length_eq_zero (by omega)
    rw [hb, h0]
    simp
    omega
theorem bytes_append (a b : ByteArray) : bytesOf (a.data.toList ++ b.data.toList) = a ++ b := by
  apply ByteArray.ext
  simp [bytesOf]
theorem conv_cells {w : World} {g : Nat} {l : List UInt8} (h : w.heap[g]? = some (.cells (Lib.byteCells l).toArray 5 (0, 0))) (cap : Nat) :
    (convert 76 9 (.slice (some ⟨g, 0, none⟩) l.length cap)).run Tryz.prog w = .ok (.string (bytesOf l)) w :=
  run_convert_bytes_back w 76 9 5 ⟨g, 0, none⟩ cap l Tryz.underlying76 Tryz.underlying5 Tryz.underlying9 (fun j hj => by
    have e : (⟨g, 0, none⟩ : Addr).add j = ⟨g, j, none⟩ := by cases j <;> simp [Addr.add]
    rw [e]
    simp [World.cell?, h, Lib.byteCells, hj])
set_option maxRecDepth 100000 in
set_option maxHeartbeats 800000 in
theorem joined_any (a b : ByteArray) (w : World) (hab : a.size + b.size ≤ 140737488355328) :
    Calls Tryz.prog 129 #[.string a, .string b] w fun e w' => e = .returned (.string (a ++ b)) ∧ Below w.heap.size w w' := by
  obtain ⟨w1, hmk, ⟨cur, hcs, hg1⟩, hb1, hz1⟩ := make_bytes w ((a.size : Int) + (b.size : Int)) (by omega) (by omega)
  have hn : ((a.size : Int) + (b.size : Int)).toNat = a.size + b.size := by omega
  rw [hn] at hmk hcs
  obtain ⟨w2, hc1, hg2, hb2⟩ := copy_str w1 w.heap.size 0 (a.size + b.size) (a.size + b.size) a cur 3 hg1 (by omega) (by omega)
  obtain ⟨o, hsl, ho⟩ := slice_from w2 w.heap.size (a.size + b.size) a.size (by omega)
  have hn2 : a.size + b.size - a.size = b.size := by omega
  rw [hn2] at hsl ho
  have la : (Lib.byteCells a.data.toList).length = a.size := by rw [Lib.byteCells_length, ← Lib.size_eq]
  obtain ⟨w3, hc2, hg3, hb3⟩ := copy_str w2 w.heap.size o b.size b.size b _ 3 hg2 (Nat.le_refl _) (by simp only [List.take_zero, List.nil_append, List.size_toArray, List.length_append, la, List.length_drop, Array.length_toList, hcs]; omega)
  simp only [List.take_zero, Nat.zero_add] at hg3
  rw [two_copies cur.toList a b o (by simpa using hcs) ho] at hg3
  have lab : (a.data.toList ++ b.data.toList).length = a.size + b.size := by rw [List.length_append, ← Lib.size_eq, ← Lib.size_eq]
  have hconv := conv_cells hg3 (a.size + b.size)
  rw [lab, bytes_append a b] at hconv
  have HB : Hid (Below w.heap.size w w3) := Lib.hid ((hb1.trans hb2).trans hb3)
  clear hg1 hg2 hg3 hb1 hb2 hb3 hcs hn hn2 la lab ho hz1
  go_enter Tryz.func129, Tryz.ntmps129
  go_wp2
  go_ret
  exact ⟨rfl, HB.out⟩
def putT (s : ByteArray) : ByteArray := if s.size ≤ 8000 then encB s.size ++ s else ByteArray.empty
theorem putT_in {s : ByteArray} (h : s.size ≤ 8000) : putT s = encB s.size ++ s := by unfold putT; rw [if_pos h]
theorem putT_out {s : ByteArray} (h : ¬ s.size ≤ 8000) : putT s = ByteArray.empty := by unfold putT; rw [if_neg h]
theorem text_impl (s : ByteArray) (w : World) (hs : s.size ≤ maxLen) :
    Calls Tryz.prog 74 #[.string s] w fun e w' => e = .returned (.string (putT s)) ∧ Below w.heap.size w w' := by
  unfold maxLen at hs
  by_cases h : s.size ≤ 8000
  · have H := Lib.hid (putT_in h)
    go_enter Tryz.func74, Tryz.ntmps74
    go_wp2_with fail
    refine (put_impl _ _ (by omega) (by omega)).mono ?_
    rintro e w1 ⟨rfl, hb1⟩
    have HB1 := Lib.hid hb1
    have ⟨_, hz⟩ := encB_size (n := (s.size : Int)) (by omega) (by omega)
    clear hb1
    go_wp2_with fail
    refine (joined_any _ _ _ (by omega)).mono ?_
    rintro e w2 ⟨rfl, hb2⟩
    have HB2 := Lib.hid (HB1.out.trans (hb2.mono HB1.out.size))
    clear hb2
    go_wp2
    go_ret
    exact ⟨ret_str H.out.symm, HB2.out⟩
  · have H := Lib.hid (putT_out h)
    go_enter Tryz.func74, Tryz.ntmps74
    go_wp2
    go_ret
    exact ⟨ret_str H.out.symm, Below.refl _ _⟩
theorem text_spec (s : ByteArray) (w : World) (hs : s.size ≤ maxLen) :
    Calls Tryz.prog 19 #[.string s] w fun e w' => e = .returned (.string (putT s)) ∧ Below w.heap.size w w' := by
  unfold maxLen at hs
  by_cases h : s.size ≤ 8000
  · have H := Lib.hid (putT_in h)
    go_enter Tryz.func19, Tryz.ntmps19
    go_wp2_with fail
    refine (put_spec _ _ (by omega) (by omega)).mono ?_
    rintro e w1 ⟨rfl, hb1⟩
    have HB1 := Lib.hid hb1
    have ⟨_, hz⟩ := encB_size (n := (s.size : Int)) (by omega) (by omega)
    generalize encB (s.size : Int) = x at *
    have hadd := fun w : World => run_string_add_sum (P := Tryz.prog) w x s (by omega)
    clear hb1
    go_wp2
    go_ret
    exact ⟨ret_str H.out.symm, HB1.out⟩
  · have H := Lib.hid (putT_out h)
    go_enter Tryz.func19, Tryz.ntmps19
    go_wp2
    go_ret
    exact ⟨ret_str H.out.symm, Below.refl _ _⟩
end Go.Proofs.YtelhmacfljffhabGreat.JoinC
end
