/- The model's draws of spans and of rows of spans: contracts: some; which, no law asks. -/
import Derived.Test.YtphklknaagjmpaaDraws
import Derived.Test.YtphklknaagjmpaaSqPut3
import Derived.Test.YtphklknaagjmpaaRep3
import Derived.Test.YtphklknaagjmpaaTk
namespace Go.Proofs.Ytphklknaagjmpaa.SpanC
open Go.RowKit KeptC RowC ValC DrawC RepC
set_option linter.unusedVariables false
set_option linter.unusedSimpArgs false

theorem butSet {g : Nat} {a w : World} (h : But g a w) {p : Addr} (hp : a.heap.size ≤ p.block) (u : Value) : But g a (w.setCell p u) :=
  ⟨h.os, h.tape, h.output, by have := h.size; simpa [World.setCell] using this, fun k hk hg => (Below.heap_setCell w p u k (by omega)).trans (h.block k hk hg)⟩
theorem blkBut {w w' : World} {k g : Nat} {t : TypeId} {cs : Array Value} (h : Blk w k t cs) (hb : But g w w') (hk : k ≠ g) : Blk w' k t cs := (hb.block k h.lt hk).trans h
theorem srcSet {g : Nat} {b : Option Addr} {len cap : Nat} {w : World} (h : Src g b len cap w) {p : Addr} (hp : g < p.block) (u : Value) : Src g b len cap (w.setCell p u) := h.mono ((Below.refl _ _).setCell hp u)
theorem srcDrew {g : Nat} {b : Option Addr} {len cap : Nat} {w : World} (h : Src g b len cap w) : Src g b len cap w.drew := h.mono (Below.refl _ _).drew
/-- a new block that is filled at once, beside a source -/
theorem mkBox {g : Nat} {b : Option Addr} {len cap : Nat} {w0 w : World} (hs : Src g b len cap w) (hb : But g w0 w) (t : TypeId) (z0 z1 u0 u1 : Value) :
    Src g b len cap (((w.alloc (.cells #[z0, z1] t)).setCell ⟨w.heap.size, 0, none⟩ u0).setCell ⟨w.heap.size, 1, none⟩ u1) ∧ But g w0 (((w.alloc (.cells #[z0, z1] t)).setCell ⟨w.heap.size, 0, none⟩ u0).setCell ⟨w.heap.size, 1, none⟩ u1) ∧
      Blk (((w.alloc (.cells #[z0, z1] t)).setCell ⟨w.heap.size, 0, none⟩ u0).setCell ⟨w.heap.size, 1, none⟩ u1) w.heap.size t #[u0, u1] :=
  ⟨srcSet (srcSet (hs.alloc _) hs.lt _) hs.lt _, butSet (butSet (hb.alloc _) hb.size _) hb.size _, (((Blk.new w t #[z0, z1]).set 0 u0).set 1 u1).as rfl⟩
/-- a span of a source -/
def DrawnX (g : Nat) (b : Option Addr) (len cap : Nat) (w : World) (e : Ending) (w' : World) : Prop := ∃ x y : Int, e = .returned (.agg #[.int .i64 x, .int .i64 y]) ∧ Src g b len cap w' ∧ But g w w'
theorem drawnX_elim {g : Nat} {b : Option Addr} {len cap : Nat} {w : World} {e : Ending} {w' : World} (h : DrawnX g b len cap w e w') : ∃ x y : Int, e = .returned (.agg #[.int .i64 x, .int .i64 y]) ∧ Src g b len cap w' ∧ But g w w' := h

set_option maxRecDepth 100000 in
set_option maxHeartbeats 1600000 in
theorem span_any (g : Nat) (b : Option Addr) (len cap : Nat) (w : World) (h : Src g b len cap w) :
    Calls Try.prog 32 #[.pointer (some ⟨g, 0, none⟩)] w (DrawnX g b len cap w) := by
  have hg := h.lt
  have HS := Lib.hid (h.alloc (.cells #[.int .i64 0, .int .i64 0] 25))
  have HR := Lib.hid (Blk.new w 25 #[.int .i64 0, .int .i64 0])
  have hgr : w.heap.size ≠ g := by omega
  clear h
  go_enter Try.func32, Try.ntmps32
  go_wp2_with fail
  refine (n_any g b len cap 30 _ HS.out (by omega)).mono ?_
  rintro e w1 ⟨x, rfl, _, _, hs, hb⟩
  have HB1 := Lib.hid (((But.refl g w).alloc _).trans hb)
  have HR1 := Lib.hid (blkBut HR.out hb hgr)
  have HS1 := Lib.hid hs
  clear hs hb HS HR
  go_wp2_with fail
  refine (n_any g b len cap 8 _ HS1.out (by omega)).mono ?_
  rintro e w2 ⟨y, rfl, _, _, hs, hb⟩
  have HB2 := Lib.hid (HB1.out.trans hb)
  have HR2 := Lib.hid (blkBut HR1.out hb hgr)
  have HS2 := Lib.hid hs
  have hw2 := HR2.out.lt
  have hgw2 := hs.lt
  clear hs hb HS1 HR1 HB1
  go_wp2_with fail
  have HX2 := Lib.hid (Blk.new w2 25 #[.int .i64 x, .int .i64 (x + 1 + y)])
  refine (one_any g b len cap 20 _ (HS2.out.alloc _) (by omega)).mono ?_
  rintro e w3 ⟨v, rfl, hs, hb⟩
  have HB3 := Lib.hid ((HB2.out.alloc _).trans hb)
  have HR3 := Lib.hid (blkBut (HR2.out.alloc _) hb hgr)
  have HX3 := Lib.hid (blkBut HX2.out hb (by omega))
  have hw3 := HX3.out.lt
  have HS3 := Lib.hid hs
  clear hs hb HS2 HR2 HB2 HX2
  cases v with
  | false =>
    have x0 := HX3.out.at_ 0 rfl
    have x1 := HX3.out.at_ 1 rfl
    have r0 := HR3.out.at_ 0 rfl
    have r1 := HR3.out.at_ 1 rfl
    have f0 := HR3.out.soft 0
    have f1 := HR3.out.soft 1
    go_wp2
    refine bodyPost_ret (v := .agg #[.int .i64 x, .int .i64 (x + 1 + y)]) (by simp [results, Try.results32, go_sem, *]) rfl ?_
    exact ⟨_, _, rfl, srcSet (srcSet HS3.out (p := ⟨w.heap.size, 0, none⟩) hg _) (p := ⟨w.heap.size, 1, none⟩) hg _, butSet (butSet HB3.out (p := ⟨w.heap.size, 0, none⟩) (Nat.le_refl _) _) (p := ⟨w.heap.size, 1, none⟩) (Nat.le_refl _) _⟩
  | true =>
    go_wp2_with fail
    have HT := Lib.hid (Blk.new w3 2 #[.int .i64 x, .int .i64 1000000, .int .i64 1000001])
    refine (n_any g b len cap 3 _ (HS3.out.alloc _) (by omega)).mono ?_
    rintro e w4 ⟨q, rfl, hq0, hq1, hs, hb⟩
    have HB4 := Lib.hid ((HB3.out.alloc _).trans hb)
    have HR4 := Lib.hid (blkBut (HR3.out.alloc _) hb hgr)
    have HX4 := Lib.hid (blkBut (HX3.out.alloc _) hb (by omega))
    have HT4 := Lib.hid (blkBut HT.out hb (by omega))
    have HS4 := Lib.hid hs
    obtain ⟨k, z, rfl, hk, hks⟩ : ∃ (k : Nat) (z : Int), q = (k : Int) ∧ k < 3 ∧ (#[.int .i64 x, .int .i64 1000000, .int .i64 1000001] : Array Value)[k]? = some (.int .i64 z) := by
      have : q = 0 ∨ q = 1 ∨ q = 2 := by omega
      rcases this with rfl | rfl | rfl
      · exact ⟨0, _, rfl, by decide, rfl⟩
      · exact ⟨1, _, rfl, by decide, rfl⟩
      · exact ⟨2, _, rfl, by decide, rfl⟩
    have hc := HT4.out.at_ k hks
    have x0 := HX4.out.at_ 0 rfl
    have x1 := HX4.out.at_ 1 rfl
    have r0 := HR4.out.at_ 0 rfl
    have r1 := HR4.out.at_ 1 rfl
    have f0 := HR4.out.soft 0
    have f1 := HR4.out.soft 1
    have g0 := HX4.out.soft 0
    have g1 := HX4.out.soft 1
    have hne : w.heap.size ≠ w2.heap.size := by omega
    have hw24 : w2.heap.size ≠ g := by omega
    clear hs hb hks HT HT4 HX3 HR3 HS3 HB3
    go_wp2
    refine bodyPost_ret (v := .agg #[.int .i64 x, .int .i64 z]) (by simp [results, Try.results32, go_sem, *]) rfl ?_
    have hb2 : g < w2.heap.size := hgw2
    exact ⟨_, _, rfl, srcSet (srcSet (srcSet HS4.out (p := ⟨w2.heap.size, 1, none⟩) hb2 _) (p := ⟨w.heap.size, 0, none⟩) hg _) (p := ⟨w.heap.size, 1, none⟩) hg _, butSet (butSet (butSet HB4.out (p := ⟨w2.heap.size, 1, none⟩) (Nat.le_of_lt hw2) _) (p := ⟨w.heap.size, 0, none⟩) (Nat.le_refl _) _) (p := ⟨w.heap.size, 1, none⟩) (Nat.le_refl _) _⟩

theorem butRowS {g lo n : Nat} {w w' : World} {v : Value} {f : Nat → Int × Int} (h : RowS w lo v n f) (hb : But g w w') (hg : g < lo) : RowS w' lo v n f := ownsRow_but h hb hg
theorem putP_len {n : Nat} {f : Nat → Int × Int} {a b : Int} {m : Nat} {h : Nat → Int × Int} (hp : PutP n f a b m h) : m ≤ n + 1 := by
  rcases hp with ⟨_, rfl⟩ | ⟨_, _, rfl, _⟩ | ⟨_, _, _, rfl, _⟩ <;> omega
theorem rowO_blk {W : World} {lo s n : Nat} {T : TypeId} {v : Value} {c : Nat → Value} (h : RowO W lo T s v n c) : ∀ k, v.ownBlock = some k → lo ≤ k := by
  obtain ⟨_, h2⟩ := h
  rcases h2 with ⟨rfl, _⟩ | ⟨g, cap, cur, rfl, hlo, _⟩
  · intro k hk; cases hk
  · intro k hk; cases hk; exact hlo
/-- a row of spans of a source, its memory at and above B -/
def DrawnSp (B g : Nat) (b : Option Addr) (len cap : Nat) (w : World) (e : Ending) (w' : World) : Prop := ∃ (v : Value) (n : Nat) (f : Nat → Int × Int), e = .returned v ∧ n ≤ 21 ∧ RowS w' B v n f ∧ Src g b len cap w' ∧ But g w w'
theorem drawnSp_elim {B g : Nat} {b : Option Addr} {len cap : Nat} {w : World} {e : Ending} {w' : World} (h : DrawnSp B g b len cap w e w') : ∃ (v : Value) (n : Nat) (f : Nat → Int × Int), e = .returned v ∧ n ≤ 21 ∧ RowS w' B v n f ∧ Src g b len cap w' ∧ But g w w' := h

set_option maxRecDepth 100000 in
set_option maxHeartbeats 3200000 in
theorem spans_any (g : Nat) (b : Option Addr) (len cap : Nat) (w : World) (h : Src g b len cap w) :
    Calls Try.prog 33 #[.pointer (some ⟨g, 0, none⟩)] w (DrawnSp w.heap.size g b len cap w) := by
  have hg := h.lt
  have HS := Lib.hid (h.alloc (.cells #[] 25))
  have HV := Lib.hid (RowO.made0 w w.heap.size 25 2 (pc fun _ => (0, 0)) (Nat.le_refl _))
  clear h
  go_enter Try.func33, Try.ntmps33
  go_wp2_with fail
  refine (n_any g b len cap 6 _ HS.out (by omega)).mono ?_
  rintro e w1 ⟨q, rfl, hq0, hq1, hs, hb⟩
  obtain ⟨q, rfl⟩ : ∃ k : Nat, q = (k : Int) := ⟨q.toNat, by omega⟩
  have HB1 := Lib.hid (((But.refl g w).alloc _).trans hb)
  have HV1 := Lib.hid (butRowS HV.out hb hg)
  have HS1 := Lib.hid hs
  have hq5 : q ≤ 5 := by omega
  clear hs hb HS HV hq0 hq1
  go_wp2_with fail
  go_loopw [3, 4] (fun v i wr => ∃ (n k : Nat) (f : Nat → Int × Int), n + k ≤ 5 ∧ i = .int .i64 k ∧ Hid (RowS wr w.heap.size v n f) ∧ Hid (Src g b len cap wr) ∧ Hid (But g w wr)) (fun _ i _ => (intOf i).toNat)
  case atStart => exact ⟨0, q, _, by omega, rfl, HV1, HS1, HB1⟩
  case round =>
    obtain ⟨n, k, f, hnk, rfl, HV2, HS2, HB2⟩ := hrel
    clear HV1 HS1 HB1
    by_cases hk : 0 < k
    · have hd : decide ((0 : Int) < (k : Int)) = true := decide_eq_true (by omega)
      have hpos : (0 : Int) < (k : Int) := by omega
      go_wp2_with fail
      refine (span_any g b len cap _ HS2.out).mono ?_
      intro e w2 h
      obtain ⟨x, y, rfl, hs, hb⟩ := drawnX_elim h
      obtain ⟨qa, qc, rfl, hps⟩ := rowO_ps (butRowS HV2.out hb hg)
      have HPS := Lib.hid hps
      have HS3 := Lib.hid hs
      have HB3 := Lib.hid (HB2.out.trans hb)
      have hs3 := HB3.out.size
      clear h hs hb hps HS2 HB2 HV2
      go_wp2_with fail
      refine (put_spec qa n qc f x y _ (by omega) HPS.out).mono ?_
      intro e w3 h
      obtain ⟨v, m, h', rfl, hq, hrow, hb⟩ := resRow_elim h
      have hm := putP_len hq
      have HV3 := Lib.hid (hrow.lower hs3)
      have HS4 := Lib.hid (HS3.out.mono (hb.mono HS3.out.lt))
      have HB4 := Lib.hid (HB3.out.of_below hb)
      have hkm : (k : Int) - 1 = ((k - 1 : Nat) : Int) := by omega
      clear h hq hrow hb HS3 HB3 HPS
      go_wp2
      go_roundw
      case rel => exact ⟨m, k - 1, h', by omega, by go_num, HV3, HS4, HB4⟩
      case measure => simp [intOf]; omega
    · obtain rfl : k = 0 := by omega
      have hn5 : n ≤ 5 := by omega
      go_wp2_with fail
      refine (one_any g b len cap 15 _ HS2.out (by omega)).mono ?_
      rintro e w2 ⟨c, rfl, hs, hb⟩
      have HV3 := Lib.hid (butRowS HV2.out hb hg)
      have HS3 := Lib.hid hs
      have HB3 := Lib.hid (HB2.out.trans hb)
      clear hs hb HV2 HS2 HB2
      cases c with
      | false =>
        go_wp2_with fail
        refine (one_any g b len cap 25 _ HS3.out (by omega)).mono ?_
        rintro e w5 ⟨c, rfl, hs, hb⟩
        have HV5 := Lib.hid (butRowS HV3.out hb hg)
        have HS5 := Lib.hid hs
        have HB5 := Lib.hid (HB3.out.trans hb)
        clear hs hb HV3 HS3 HB3
        cases c with
        | false =>
          go_wp2
          go_ret
          exact ⟨_, _, _, rfl, by omega, HV5.out, HS5.out, HB5.out⟩
        | true =>
          have HV6 := Lib.hid (RowO.nil w5 w.heap.size 25 2 (pc fun _ => (0, 0)))
          clear HV5
          go_wp2_with fail
          go_loopw [3, 5] (fun v i wr => ∃ (n : Nat) (f : Nat → Int × Int), n ≤ 21 ∧ i = .int .i64 n ∧ Hid (RowS wr w.heap.size v n f) ∧ Hid (Src g b len cap wr) ∧ Hid (But g w wr)) (fun _ i _ => 22 - (intOf i).toNat)
          case atStart => exact ⟨0, _, by omega, rfl, HV6, HS5, HB5⟩
          case round =>
            obtain ⟨n, f, hn, rfl, HV7, HS7, HB7⟩ := hrel
            clear HV6 HS5 HB5
            go_wp2_with fail
            refine (n_any g b len cap 2 _ HS7.out (by omega)).mono ?_
            rintro e w6 ⟨q, rfl, hq0, hq1, hs, hb⟩
            have HV8 := Lib.hid (butRowS HV7.out hb hg)
            have HS8 := Lib.hid hs
            have HB8 := Lib.hid (HB7.out.trans hb)
            have hs8 := HB8.out.size
            clear hs hb HV7 HS7 HB7
            by_cases hlt : (n : Int) < 20 + q
            · have hd : decide ((n : Int) < 20 + q) = true := decide_eq_true hlt
              obtain ⟨v9, W9, hr9, hown9, hbel9, hg9, hat9⟩ := app_sp (w6.alloc (.cells #[.int .i64 (2 * (n : Int)), .int .i64 (2 * (n : Int) + 1)] 25)) w.heap.size 23 23 Try.underlying23 (HV8.out.alloc _) (m := 1) 1 (one_row (a := 2 * (n : Int)) (b := 2 * (n : Int) + 1)) (by omega) (by simp; omega)
              have HR9 := Lib.hid hr9
              have HV9 := Lib.hid hown9
              have HB9 := Lib.hid ((HB8.out.alloc (.cells #[.int .i64 (2 * (n : Int)), .int .i64 (2 * (n : Int) + 1)] 25)).grown hg9 (rowO_blk HV8.out))
              have HS9 := Lib.hid ((HS8.out.alloc (.cells #[.int .i64 (2 * (n : Int)), .int .i64 (2 * (n : Int) + 1)] 25)).grown hg9 (fun k hk => Nat.lt_of_lt_of_le hg (rowO_blk HV8.out k hk)))
              clear hr9 hown9 hbel9 hg9 hat9 HV8 HS8 HB8
              go_wp2_with (at_builtin; refine wpList_app rfl (.tmp 33) (.tmp 40) 23 rfl rfl rfl HR9.out ?_)
              go_roundw
              case rel => exact ⟨n + 1, _, by omega, by go_num, HV9, HS9, HB9⟩
              case measure => simp [intOf]; omega
            · have hd : decide ((n : Int) < 20 + q) = false := decide_eq_false hlt
              go_wp2
              go_ret
              exact ⟨_, _, _, rfl, hn, HV8.out, HS8.out, HB8.out⟩
      | true =>
        go_wp2_with fail
        refine (span_any g b len cap _ HS3.out).mono ?_
        intro e w3 h
        obtain ⟨x, y, rfl, hs, hb⟩ := drawnX_elim h
        have hs3 := (HB3.out.trans hb).size
        obtain ⟨v4, W4, hr4, hown4, hbel4, hg4, hat4⟩ := app_sp (w3.alloc (.cells #[.int .i64 x, .int .i64 y] 25)) w.heap.size 23 23 Try.underlying23 ((butRowS HV3.out hb hg).alloc _) (m := 1) 1 (one_row (a := x) (b := y)) (by omega) (by simp; omega)
        have HR4 := Lib.hid hr4
        have HV4 := Lib.hid hown4
        have HB4 := Lib.hid (((HB3.out.trans hb).alloc (.cells #[.int .i64 x, .int .i64 y] 25)).grown hg4 (rowO_blk HV3.out))
        have HS4 := Lib.hid ((hs.alloc (.cells #[.int .i64 x, .int .i64 y] 25)).grown hg4 (fun k hk => Nat.lt_of_lt_of_le hg (rowO_blk HV3.out k hk)))
        clear h hs hb HV3 HS3 HB3 hr4 hown4 hbel4 hg4 hat4
        go_wp2_with (first | (at_builtin; refine wpList_app rfl (.tmp 19) (.tmp 22) 23 rfl rfl rfl HR4.out ?_) | fail)
        have HV3 := HV4
        have HS3 := HS4
        have HB3 := HB4
        clear HV4 HS4 HB4 HR4
        go_wp2_with fail
        refine (one_any g b len cap 25 _ HS3.out (by omega)).mono ?_
        rintro e w5 ⟨c, rfl, hs, hb⟩
        have HV5 := Lib.hid (butRowS HV3.out hb hg)
        have HS5 := Lib.hid hs
        have HB5 := Lib.hid (HB3.out.trans hb)
        clear hs hb HV3 HS3 HB3
        cases c with
        | false =>
          go_wp2
          go_ret
          exact ⟨_, _, _, rfl, by omega, HV5.out, HS5.out, HB5.out⟩
        | true =>
          have HV6 := Lib.hid (RowO.nil w5 w.heap.size 25 2 (pc fun _ => (0, 0)))
          clear HV5
          go_wp2_with fail
          go_loopw [3, 5] (fun v i wr => ∃ (n : Nat) (f : Nat → Int × Int), n ≤ 21 ∧ i = .int .i64 n ∧ Hid (RowS wr w.heap.size v n f) ∧ Hid (Src g b len cap wr) ∧ Hid (But g w wr)) (fun _ i _ => 22 - (intOf i).toNat)
          case atStart => exact ⟨0, _, by omega, rfl, HV6, HS5, HB5⟩
          case round =>
            obtain ⟨n, f, hn, rfl, HV7, HS7, HB7⟩ := hrel
            clear HV6 HS5 HB5
            go_wp2_with fail
            refine (n_any g b len cap 2 _ HS7.out (by omega)).mono ?_
            rintro e w6 ⟨q, rfl, hq0, hq1, hs, hb⟩
            have HV8 := Lib.hid (butRowS HV7.out hb hg)
            have HS8 := Lib.hid hs
            have HB8 := Lib.hid (HB7.out.trans hb)
            have hs8 := HB8.out.size
            clear hs hb HV7 HS7 HB7
            by_cases hlt : (n : Int) < 20 + q
            · have hd : decide ((n : Int) < 20 + q) = true := decide_eq_true hlt
              obtain ⟨v9, W9, hr9, hown9, hbel9, hg9, hat9⟩ := app_sp (w6.alloc (.cells #[.int .i64 (2 * (n : Int)), .int .i64 (2 * (n : Int) + 1)] 25)) w.heap.size 23 23 Try.underlying23 (HV8.out.alloc _) (m := 1) 1 (one_row (a := 2 * (n : Int)) (b := 2 * (n : Int) + 1)) (by omega) (by simp; omega)
              have HR9 := Lib.hid hr9
              have HV9 := Lib.hid hown9
              have HB9 := Lib.hid ((HB8.out.alloc (.cells #[.int .i64 (2 * (n : Int)), .int .i64 (2 * (n : Int) + 1)] 25)).grown hg9 (rowO_blk HV8.out))
              have HS9 := Lib.hid ((HS8.out.alloc (.cells #[.int .i64 (2 * (n : Int)), .int .i64 (2 * (n : Int) + 1)] 25)).grown hg9 (fun k hk => Nat.lt_of_lt_of_le hg (rowO_blk HV8.out k hk)))
              clear hr9 hown9 hbel9 hg9 hat9 HV8 HS8 HB8
              go_wp2_with (at_builtin; refine wpList_app rfl (.tmp 33) (.tmp 40) 23 rfl rfl rfl HR9.out ?_)
              go_roundw
              case rel => exact ⟨n + 1, _, by omega, by go_num, HV9, HS9, HB9⟩
              case measure => simp [intOf]; omega
            · have hd : decide ((n : Int) < 20 + q) = false := decide_eq_false hlt
              go_wp2
              go_ret
              exact ⟨_, _, _, rfl, hn, HV8.out, HS8.out, HB8.out⟩
end Go.Proofs.Ytphklknaagjmpaa.SpanC
