/- Of this claim's texts the part 2: Opn JobO UsO TaS Gen TaG TaO TaGv TaA1 PutMath Put Shelf Bld TaE1 Join TaE2 TaE3 TaGb. -/
import Derived.Deep.Slices
import Derived.WalkKit
import Derived.Laws.Closers25b
import Derived.Laws.Bits64
import Derived.Test.YtkghodbbgehcoaaProg
import Derived.ProofKit
import Derived.Below
import Derived.LoopTactic
import Derived.BigQuiet
import Derived.Deep.QuietTactic
import Derived.WalkSpells
import Derived.WalkLawsBesides
import Derived.Lib.Hide
import Derived.OwnWalk
import Derived.OpenShut
import Derived.Laws.IdiomStrings
import Derived.Shelf.Strings.Builder1
import Derived.Shelf.Small.Bits
import Derived.Shelf.Strconv.Itoa0
import Derived.Ground.SlgnProg
import Derived.Shelf.SlicesE.Clone
import Derived.Ground.SlgcProg
import Derived.Shelf.SlicesG.Cmp
import Derived.Test.YtkghodbbgehcoaaRows
import Derived.Lib.Strings
import Derived.Lib.Slices
import Derived.Lib.Walk
import Derived.Lib.Builder
import Derived.Lib.AppendStr
import Derived.Lib.UnsafeStr
import Derived.Lib.MakeNoZero
import Derived.Laws.Externs
import Derived.Laws.IdiomCopy
import Derived.Laws.BitsLemmas
import Derived.Shelf.RegionOpenPlain
import Derived.Lib.BufferWrite
import Derived.Laws.MakeOwn
import Derived.Laws.CopyOwn
import Derived.Laws.Concat
import Derived.Test.YtkghodbbgehcoaaPB1
section
namespace Go.Proofs.Ytkghodbbgehcoaa.RepC
open Go.ChangeShapes Go.WideShapes Go.ChangeAt Go.RowKit Go.Joins Go.Deep RowC ValC
set_option linter.unusedVariables false
set_option maxRecDepth 100000
def Opn {α : Type} (E : Rp α) (t : TypeId) : Prop := ∀ {H : Type} (enc : TypeId × Value → H) (W : World) (fuel : Nat) (cs : List Value) (y : DataW H × List MemPlace), DataW.trod enc Try.prog W 0 (fun _ => true) true fuel t cs = some y → ∃ d, E.rd W W.heap.size d cs
theorem opn_int {t : TypeId} (ht : Try.prog.underlying t = some (.int .i64)) : Opn I t := fun enc W fuel cs y h => by
  obtain ⟨n, rfl, _, _⟩ := DataW.trod_int ht h
  exact ⟨n, rfl⟩
theorem add_addr (b o k : Nat) : (⟨b, o, none⟩ : Addr).add k = ⟨b, o + k, none⟩ := by
  unfold Addr.add; split
  · rename_i hz; rw [hz]; rfl
  · rfl
theorem opn_sl {α : Type} {E : Rp α} {t e : TypeId} (hE : Opn E e) (hp : 0 < E.size) (ht : Try.prog.underlying t = some (.slice e)) (hc : Try.prog.cellsOf e = E.size) : Opn (Sl E) t := fun enc W fuel cs y h => by
  rcases open_slice ht h with ⟨rfl, _⟩ | ⟨x, n, cap, m, k, D, Pl, rfl, _, hl, hm, hmm, _, hi⟩
  · exact ⟨[], none, 0, rfl, Nat.le_refl _, Nat.zero_le _, fun h => absurd h (Nat.lt_irrefl _)⟩
  · simp only [if_true] at hmm
    rw [hc] at hi
    have hone : ∀ i, i < n → ∃ d us, us.length = E.size ∧ (∀ j, j < E.size → W.cell? ((x.add (i * E.size)).add j) = us[j]?) ∧ E.rd W W.heap.size d us := fun i hin => by
      obtain ⟨us, h1, h2⟩ := hi i (by omega)
      obtain ⟨_, h3, h4⟩ := World.cells?_some h1
      obtain ⟨d, hd⟩ := hE enc W k us _ h2
      exact ⟨d, us, h3, h4, hd⟩
    by_cases hn : n = 0
    · subst hn
      exact ⟨[], some x, cap, rfl, hl, hm, fun h => absurd h (Nat.lt_irrefl _)⟩
    · obtain ⟨d0, us0, l0, c0, _⟩ := hone 0 (by omega)
      have e0 : (x.add (0 * E.size)).add 0 = x := by simp [Addr.add]
      have h0 := c0 0 hp
      rw [e0] at h0
      have hu : ∃ u, us0[0]? = some u := ⟨us0[0], List.getElem?_eq_getElem (by omega)⟩
      obtain ⟨u, hu⟩ := hu
      rw [hu] at h0
      have hsp : x.spot = none := by
        cases hs : x.spot with
        | none => rfl
        | some s => simp [World.cell?, hs] at h0; split at h0 <;> simp at h0
      obtain ⟨b, off, sp⟩ := x
      simp only at hsp
      subst hsp
      have hb := World.block_lt_of_cell? W ⟨b, off, none⟩ h0
      have hall : ∀ q, q ≤ n → ∃ L : List α, L.length = q ∧ ∀ i d, L[i]? = some d → ∃ us, CellsAt W b (off + i * E.size) us ∧ E.rd W W.heap.size d us := by
        intro q
        induction q with
        | zero => exact fun _ => ⟨[], rfl, fun i d hd => by simp at hd⟩
        | succ q ih =>
          intro hq
          obtain ⟨L, hL, hall⟩ := ih (by omega)
          obtain ⟨d, us, hus, hcs, hd⟩ := hone q (by omega)
          refine ⟨L ++ [d], by simp [hL], fun i z hz => ?_⟩
          by_cases hi : i < L.length
          · rw [List.getElem?_append_left hi] at hz
            exact hall i z hz
          · rw [List.getElem?_append_right (by omega)] at hz
            have hi2 : i = q := by
              have := (List.getElem?_eq_some_iff.1 hz).1
              simp at this
              omega
            subst hi2
            simp [hL] at hz
            subst hz
            refine ⟨us, fun j c hj => ?_, hd⟩
            have hj2 := (List.getElem?_eq_some_iff.1 hj).1
            have := hcs j (by omega)
            rw [add_addr, add_addr, hj] at this
            exact this
      obtain ⟨L, hL, hel⟩ := hall n (Nat.le_refl _)
      subst hL
      exact ⟨L, some ⟨b, off, none⟩, cap, rfl, hl, hm, fun _ => ⟨b, off, rfl, hb, hel⟩⟩
theorem fld {H : Type} {enc : TypeId × Value → H} {W : World} {n : Nat} {cs : List Value} {fs : Array Field} {xs : List (DataW H × List MemPlace)} (hf : ∀ (i : Nat) (f : Field), fs[i]? = some f → DataW.trod enc Try.prog W 0 (fun _ => true) true n f.type ((cs.drop f.offset).take (Try.prog.cellsOf f.type)) = xs[i]?)
    (i : Nat) (t o k : Nat) (h : fs[i]?.map (fun f => (f.type, f.offset)) = some (t, o)) (hc : Try.prog.cellsOf t = k) : DataW.trod enc Try.prog W 0 (fun _ => true) true n t ((cs.drop o).take k) = xs[i]? := by
  cases e : fs[i]? with
  | none => rw [e] at h; cases h
  | some f =>
    rw [e] at h
    simp only [Option.map_some, Option.some.injEq, Prod.mk.injEq] at h
    obtain ⟨rfl, rfl⟩ := h
    subst hc
    exact hf i f e
theorem open_st {α : Type} {E : Rp α} {t : TypeId} {fs : Array Field} (hO : Opn E t) (ht : Try.prog.underlying t = some (.struct fs)) {H : Type} {enc : TypeId × Value → H} {W : World} {base : Nat} {v : Value} {d : DataW H} {p : List MemPlace} (o : Value.okWide Try.prog W .any base t v)
    (h : DataW.Trod enc Try.prog W 0 (fun _ => true) true t v d p) : ∃ (x : α) (cs : List Value), v = .agg cs.toArray ∧ E.rd W W.heap.size x cs := by
  obtain ⟨cs, rfl, _⟩ := okWide_struct ht o
  obtain ⟨fuel, hf⟩ := h
  obtain ⟨x, hx⟩ := hO enc W fuel _ _ hf
  exact ⟨x, cs.toList, rfl, hx⟩
end Go.Proofs.Ytkghodbbgehcoaa.RepC
end
section
namespace Go.Proofs.Ytkghodbbgehcoaa.RepC
open Go.ChangeShapes Go.WideShapes Go.ChangeAt Go.RowKit Go.Joins Go.Deep RowC ValC
set_option linter.unusedVariables false
set_option maxRecDepth 100000
theorem c_int64 : Try.prog.cellsOf 2 = 1 := by kernel_rfl
theorem c_i64s : Try.prog.cellsOf 37 = 1 := by kernel_rfl
theorem c_Label : Try.prog.cellsOf 36 = 2 := by kernel_rfl
theorem opn_i64 : Opn I 2 := opn_int Try.underlying2
theorem opn_i64s : Opn (Sl I) 37 := opn_sl opn_i64 (by decide) Try.underlying37 c_int64
theorem opn_Label : Opn R_Label 36 := fun enc W fuel cs y h => by
  obtain ⟨xs, n, _, _, hl, hlen, hf⟩ := DataW.trod_struct Try.underlying36 h
  rw [c_Label] at hl
  match cs, hl with
  | [c0, c1], _ =>
    have e2 : xs.length = 2 := hlen
    match xs, e2 with
    | [y0, y1], _ =>
      have g0 := fld hf 0 2 0 1 rfl c_int64
      have g1 := fld hf 1 2 1 1 rfl c_int64
      obtain ⟨d0, h0⟩ := opn_i64 enc W n [c0] y0 g0
      obtain ⟨d1, h1⟩ := opn_i64 enc W n [c1] y1 g1
      exact ⟨(d0, d1), [c0], [c1], rfl, h0, h1⟩
end Go.Proofs.Ytkghodbbgehcoaa.RepC
end
section
namespace Go.Proofs.Ytkghodbbgehcoaa.RepC
open Go.ChangeShapes Go.WideShapes Go.ChangeAt Go.RowKit Go.Joins Go.Deep RowC ValC
set_option maxRecDepth 100000
set_option linter.unusedVariables false
set_option linter.unusedSimpArgs false
theorem c_String : Try.prog.cellsOf 9 = 1 := by kernel_rfl
theorem opn_String : Opn St 9 := fun enc W fuel cs y h => by
  obtain ⟨s, rfl, _, hw⟩ := DataW.trod_string Try.underlying9 h
  exact ⟨s, rfl, hw⟩
end Go.Proofs.Ytkghodbbgehcoaa.RepC
end
section
namespace Go.Proofs.Ytkghodbbgehcoaa.RepC
open Go.RowKit RowC ValC
set_option linter.unusedVariables false
set_option linter.unusedSimpArgs false
theorem szd_Task {x0 : Int} {x1 : Int} {x2 : Int} {x3 : ByteArray} {x4 : Int} {x5 : Int} {x6 : Int} {x7 : Int} {x8 : Int} {x9 : Int} {x10 : Int} {x11 : Int} {x12 : Int} {L0 : List (Int)} : R_Task.sz ((x0, x1), x2, x3, x4, x5, x6, (x7, x8), x9, x10, x11, x12, L0) = x3.size + ((Sl I)).sz L0 := by
  simp only [R_Task, Pr, I, Bo, St, atom, R_Label]; omega
set_option maxRecDepth 100000 in
set_option maxHeartbeats 1600000 in
theorem sz_Task {x0 : Int} {x1 : Int} {x2 : Int} {x3 : ByteArray} {x4 : Int} {x5 : Int} {x6 : Int} {x7 : Int} {x8 : Int} {x9 : Int} {x10 : Int} {x11 : Int} {x12 : Int} {L0 : List (Int)} {a0 : Option Addr} {c0 : Nat} {W : World} {l : Int} (h0 : 0 ≤ l) (h1 : l ≤ 1048576) (h_L0 : RdSl I W W.heap.size L0 a0 c0) (b_x3 : x3.size ≤ maxLen) : Calls Try.prog 23 #[.agg #[.int .i64 x0, .int .i64 x1, .int .i64 x2, .string x3, .int .i64 x4, .int .i64 x5, .int .i64 x6, .int .i64 x7, .int .i64 x8, .int .i64 x9, .int .i64 x10, .int .i64 x11, .int .i64 x12, .slice a0 L0.length c0], .int .i64 l] W (SzC l (R_Task.sz ((x0, x1), x2, x3, x4, x5, x6, (x7, x8), x9, x10, x11, x12, L0)) W) := by
  unfold maxLen at b_x3
  have H_L0 := Lib.hid h_L0
  clear h_L0
  have HD := Lib.hid (szd_Task (x0 := x0) (x1 := x1) (x2 := x2) (x3 := x3) (x4 := x4) (x5 := x5) (x6 := x6) (x7 := x7) (x8 := x8) (x9 := x9) (x10 := x10) (x11 := x11) (x12 := x12) (L0 := L0))
  have HB0 := Lib.hid (show Below W.heap.size W (W.alloc (.cells #[.int .i64 x0, .int .i64 x1, .int .i64 x2, .string x3, .int .i64 x4, .int .i64 x5, .int .i64 x6, .int .i64 x7, .int .i64 x8, .int .i64 x9, .int .i64 x10, .int .i64 x11, .int .i64 x12, .slice a0 L0.length c0] 39)) from (Below.refl _ _).alloc (Nat.le_refl _) _)
  have hP := Blk.new W 39 #[.int .i64 x0, .int .i64 x1, .int .i64 x2, .string x3, .int .i64 x4, .int .i64 x5, .int .i64 x6, .int .i64 x7, .int .i64 x8, .int .i64 x9, .int .i64 x10, .int .i64 x11, .int .i64 x12, .slice a0 L0.length c0]
  have HP0 := Lib.hid hP
  have hz0 : W.heap.size ≤ (W.alloc (.cells #[.int .i64 x0, .int .i64 x1, .int .i64 x2, .string x3, .int .i64 x4, .int .i64 x5, .int .i64 x6, .int .i64 x7, .int .i64 x8, .int .i64 x9, .int .i64 x10, .int .i64 x11, .int .i64 x12, .slice a0 L0.length c0] 39)).heap.size := HB0.out.size
  clear hP
  by_cases hf : (x3.size : Int) ≤ l
  rotate_left
  · have HR := Lib.hid (szR_no (l := l) (s := R_Task.sz ((x0, x1), x2, x3, x4, x5, x6, (x7, x8), x9, x10, x11, x12, L0)) (by rw [HD.out]; omega))
    have hd : decide (l - (x3.size : Int) < 0) = true := decide_eq_true (by omega)
    go_enter Try.func23, Try.ntmps23
    go_wp2
    go_ret
    exact ⟨by rw [HR.out]; rfl, HB0.out⟩
  have hd : decide (l - (x3.size : Int) < 0) = false := decide_eq_false (by omega)
  obtain ⟨s0, hs0⟩ : ∃ s, s = (((Sl I)).sz L0) := ⟨_, rfl⟩
  have HS0 := Lib.hid hs0
  rw [← hs0] at HD
  clear hs0
  go_enter Try.func23, Try.ntmps23
  go_wp2_with fail
  refine (sz_Int64S (l := l - (x3.size : Int)) (by omega) (by omega) ((H_L0.out.below I_ok HB0.out).more I_ok hz0)).mono ?_
  intro e w1 h
  obtain ⟨rfl, hb⟩ := szC_elim h
  rw [← HS0.out]
  have HP1 := Lib.hid (HP0.out.call hb)
  have HB1 := Lib.hid (HB0.out.trans (hb.mono hz0))
  clear h hb
  by_cases hf0 : (s0 : Int) ≤ l - (x3.size : Int)
  rotate_left
  · rw [szR_no hf0]
    have HR := Lib.hid (szR_no (l := l) (s := R_Task.sz ((x0, x1), x2, x3, x4, x5, x6, (x7, x8), x9, x10, x11, x12, L0)) (by rw [HD.out]; omega))
    go_wp2
    go_ret
    exact ⟨by first | (rw [HR.out]; done) | (rw [HR.out]; rfl), HB1.out⟩
  rw [szR_yes hf0]
  have hpos0 : (0 : Int) ≤ l - (x3.size : Int) - (s0 : Nat) := by omega
  have HR := Lib.hid (szR_yes (l := l) (s := R_Task.sz ((x0, x1), x2, x3, x4, x5, x6, (x7, x8), x9, x10, x11, x12, L0)) (by rw [HD.out]; omega))
  go_wp2
  go_ret
  exact ⟨by rw [HR.out, HD.out]; first | rfl | (simp; done) | (simp; omega), HB1.out⟩
end Go.Proofs.Ytkghodbbgehcoaa.RepC
end
section
namespace Go.Proofs.Ytkghodbbgehcoaa.RepC
open Go.RowKit RowC ValC
set_option linter.unusedVariables false
theorem gmv {α : Type} {E : Rp α} (hE : Ok E) {d : α} {cs : List Value} {w w' : World} (h : E.rd w w.heap.size d cs) (hb : Below w.heap.size w w') : E.rd w' w'.heap.size d cs := hE.rd_more (hE.rd_below h hb) hb.size
def OwG {α : Type} (E : Rp α) (w : World) (S : Nat → Prop) (d : α) (cs : List Value) : Prop := E.ow w S d cs ∧ ∀ k, S k → k < w.heap.size
theorem OwG.mv {α : Type} {E : Rp α} (hE : Ok E) {w w' : World} {S : Nat → Prop} {d : α} {cs : List Value} (h : OwG E w S d cs) (hb : Below w.heap.size w w') : OwG E w' S d cs :=
  ⟨hE.ow_keep h.1 fun k hk => hb.block k (h.2 k hk), fun k hk => Nat.lt_of_lt_of_le (h.2 k hk) hb.size⟩
theorem OwG.off {α : Type} {E : Rp α} (hE : Ok E) {w w' : World} {S T : Nat → Prop} {d : α} {cs : List Value} (h : OwG E w S d cs) (ho : Off T w w') (hd : ∀ k, S k → ¬ T k) : OwG E w' S d cs :=
  ⟨hE.ow_keep h.1 fun k hk => ho.block k (h.2 k hk) (hd k hk), fun k hk => Nat.lt_of_lt_of_le (h.2 k hk) ho.size⟩
theorem OwG.rd {α : Type} {E : Rp α} (hE : Ok E) {w : World} {S : Nat → Prop} {d : α} {cs : List Value} (h : OwG E w S d cs) : E.rd w w.heap.size d cs := hE.ow_rd h.1 h.2
theorem owG_new {α : Type} {E : Rp α} {w : World} {m : Nat} {d : α} {cs : List Value} (h : E.ow w (Rg m w.heap.size) d cs) : OwG E w (Rg m w.heap.size) d cs := ⟨h, fun k hk => hk.2⟩
end Go.Proofs.Ytkghodbbgehcoaa.RepC
end
section
namespace Go.Proofs.Ytkghodbbgehcoaa.RepC
open Go.RowKit RowC ValC
set_option linter.unusedVariables false
set_option linter.unusedSimpArgs false
theorem gsz_Task {d : D_Task} {cs : List Value} {W : World} {l : Int} (h0 : 0 ≤ l) (h1 : l ≤ 1048576) (h : R_Task.rd W W.heap.size d cs) : Calls Try.prog 23 #[.agg cs.toArray, .int .i64 l] W (SzC l (R_Task.sz d) W) := by
  obtain ⟨⟨x0, x1⟩, x2, x3, x4, x5, x6, ⟨x7, x8⟩, x9, x10, x11, x12, L0⟩ := d
  obtain ⟨a0, c0, rfl, k_L0, b_x3⟩ := rd_Task h
  exact sz_Task h0 h1 k_L0 b_x3
theorem gto_Task {d : D_Task} {cs : List Value} {W : World} (hsz : R_Task.sz d ≤ 1048576) (h : R_Task.rd W W.heap.size d cs) : Calls Try.prog 25 #[.agg cs.toArray] W (NewV R_Task d W) := by
  obtain ⟨⟨x0, x1⟩, x2, x3, x4, x5, x6, ⟨x7, x8⟩, x9, x10, x11, x12, L0⟩ := d
  obtain ⟨a0, c0, rfl, k_L0, b_x3⟩ := rd_Task h
  exact to_Task hsz k_L0 b_x3
theorem geq_Task {d : D_Task} {cs cs' : List Value} {W : World} (h : R_Task.rd W W.heap.size d cs) (h' : R_Task.rd W W.heap.size d cs') : Calls Try.prog 27 #[.agg cs.toArray, .agg cs'.toArray] W (IsB true W) := by
  obtain ⟨⟨x0, x1⟩, x2, x3, x4, x5, x6, ⟨x7, x8⟩, x9, x10, x11, x12, L0⟩ := d
  obtain ⟨a0, c0, rfl, k_L0, b_x3⟩ := rd_Task h
  obtain ⟨a0', c0', rfl, k'_L0, b'_x3⟩ := rd_Task h'
  exact eq_Task k_L0 k'_L0
theorem owc_Task {W : World} {S : Nat → Prop} {x0 : Int} {x1 : Int} {x2 : Int} {x3 : ByteArray} {x4 : Int} {x5 : Int} {x6 : Int} {x7 : Int} {x8 : Int} {x9 : Int} {x10 : Int} {x11 : Int} {x12 : Int} {L0 : List (Int)} {cs : List Value} (h : R_Task.ow W S ((x0, x1), x2, x3, x4, x5, x6, (x7, x8), x9, x10, x11, x12, L0) cs) : ∃ a0 c0, cs = [.int .i64 x0, .int .i64 x1, .int .i64 x2, .string x3, .int .i64 x4, .int .i64 x5, .int .i64 x6, .int .i64 x7, .int .i64 x8, .int .i64 x9, .int .i64 x10, .int .i64 x11, .int .i64 x12, .slice a0 L0.length c0] ∧ R_Task.ow W S ((x0, x1), x2, x3, x4, x5, x6, (x7, x8), x9, x10, x11, x12, L0) [.int .i64 x0, .int .i64 x1, .int .i64 x2, .string x3, .int .i64 x4, .int .i64 x5, .int .i64 x6, .int .i64 x7, .int .i64 x8, .int .i64 x9, .int .i64 x10, .int .i64 x11, .int .i64 x12, .slice a0 L0.length c0] := by
  have h0 := h
  obtain ⟨a0, c0, T0, rfl, _⟩ := ow_Task h
  exact ⟨a0, c0, rfl, h0⟩
theorem rdc_Task {W : World} {B : Nat} {x0 : Int} {x1 : Int} {x2 : Int} {x3 : ByteArray} {x4 : Int} {x5 : Int} {x6 : Int} {x7 : Int} {x8 : Int} {x9 : Int} {x10 : Int} {x11 : Int} {x12 : Int} {L0 : List (Int)} {cs : List Value} (h : R_Task.rd W B ((x0, x1), x2, x3, x4, x5, x6, (x7, x8), x9, x10, x11, x12, L0) cs) : ∃ a0 c0, cs = [.int .i64 x0, .int .i64 x1, .int .i64 x2, .string x3, .int .i64 x4, .int .i64 x5, .int .i64 x6, .int .i64 x7, .int .i64 x8, .int .i64 x9, .int .i64 x10, .int .i64 x11, .int .i64 x12, .slice a0 L0.length c0] ∧ R_Task.rd W B ((x0, x1), x2, x3, x4, x5, x6, (x7, x8), x9, x10, x11, x12, L0) [.int .i64 x0, .int .i64 x1, .int .i64 x2, .string x3, .int .i64 x4, .int .i64 x5, .int .i64 x6, .int .i64 x7, .int .i64 x8, .int .i64 x9, .int .i64 x10, .int .i64 x11, .int .i64 x12, .slice a0 L0.length c0] := by
  have h0 := h
  obtain ⟨a0, c0, rfl, _⟩ := rd_Task h
  exact ⟨a0, c0, rfl, h0⟩
theorem cvd_Task {x0 : Int} {x1 : Int} {x2 : Int} {x3 : ByteArray} {x4 : Int} {x5 : Int} {x6 : Int} {x7 : Int} {x8 : Int} {x9 : Int} {x10 : Int} {x11 : Int} {x12 : Int} {L0 : List (Int)} : R_Task.cv ((x0, x1), x2, x3, x4, x5, x6, (x7, x8), x9, x10, x11, x12, L0) = sumL (I).cm L0 := by
  simp only [R_Task, R_Label, Pr, Sl, I, Bo, St, atom]; omega
end Go.Proofs.Ytkghodbbgehcoaa.RepC
end
section
namespace Go.Proofs.Ytkghodbbgehcoaa.RepC
open Go.ChangeShapes Go.WideShapes Go.ChangeAt Go.RowKit Go.Joins Go.Deep RowC ValC
set_option maxRecDepth 100000
set_option linter.unusedVariables false
set_option linter.unusedSimpArgs false
theorem c_Task : Try.prog.cellsOf 39 = 14 := by kernel_rfl
theorem opn_Task : Opn R_Task 39 := fun enc W fuel cs y h => by
  obtain ⟨xs, n, _, _, hl, hlen, hf⟩ := DataW.trod_struct Try.underlying39 h
  rw [c_Task] at hl
  match cs, hl with
  | [c0, c1, c2, c3, c4, c5, c6, c7, c8, c9, c10, c11, c12, c13], _ =>
    have e2 : xs.length = 12 := hlen
    match xs, e2 with
    | [y0, y1, y2, y3, y4, y5, y6, y7, y8, y9, y10, y11], _ =>
      have g0 := fld hf 0 36 0 2 rfl c_Label
      have g1 := fld hf 1 2 2 1 rfl c_int64
      have g2 := fld hf 2 9 3 1 rfl c_String
      have g3 := fld hf 3 2 4 1 rfl c_int64
      have g4 := fld hf 4 2 5 1 rfl c_int64
      have g5 := fld hf 5 2 6 1 rfl c_int64
      have g6 := fld hf 6 36 7 2 rfl c_Label
      have g7 := fld hf 7 2 9 1 rfl c_int64
      have g8 := fld hf 8 2 10 1 rfl c_int64
      have g9 := fld hf 9 2 11 1 rfl c_int64
      have g10 := fld hf 10 2 12 1 rfl c_int64
      have g11 := fld hf 11 37 13 1 rfl c_i64s
      obtain ⟨d0, h0⟩ := opn_Label enc W n [c0, c1] y0 g0
      obtain ⟨d1, h1⟩ := opn_i64 enc W n [c2] y1 g1
      obtain ⟨d2, h2⟩ := opn_String enc W n [c3] y2 g2
      obtain ⟨d3, h3⟩ := opn_i64 enc W n [c4] y3 g3
      obtain ⟨d4, h4⟩ := opn_i64 enc W n [c5] y4 g4
      obtain ⟨d5, h5⟩ := opn_i64 enc W n [c6] y5 g5
      obtain ⟨d6, h6⟩ := opn_Label enc W n [c7, c8] y6 g6
      obtain ⟨d7, h7⟩ := opn_i64 enc W n [c9] y7 g7
      obtain ⟨d8, h8⟩ := opn_i64 enc W n [c10] y8 g8
      obtain ⟨d9, h9⟩ := opn_i64 enc W n [c11] y9 g9
      obtain ⟨d10, h10⟩ := opn_i64 enc W n [c12] y10 g10
      obtain ⟨d11, h11⟩ := opn_i64s enc W n [c13] y11 g11
      exact ⟨(d0, d1, d2, d3, d4, d5, d6, d7, d8, d9, d10, d11), ⟨[c0, c1], [c2, c3, c4, c5, c6, c7, c8, c9, c10, c11, c12, c13], rfl, h0, ⟨[c2], [c3, c4, c5, c6, c7, c8, c9, c10, c11, c12, c13], rfl, h1, ⟨[c3], [c4, c5, c6, c7, c8, c9, c10, c11, c12, c13], rfl, h2, ⟨[c4], [c5, c6, c7, c8, c9, c10, c11, c12, c13], rfl, h3, ⟨[c5], [c6, c7, c8, c9, c10, c11, c12, c13], rfl, h4, ⟨[c6], [c7, c8, c9, c10, c11, c12, c13], rfl, h5, ⟨[c7, c8], [c9, c10, c11, c12, c13], rfl, h6, ⟨[c9], [c10, c11, c12, c13], rfl, h7, ⟨[c10], [c11, c12, c13], rfl, h8, ⟨[c11], [c12, c13], rfl, h9, ⟨[c12], [c13], rfl, h10, h11⟩⟩⟩⟩⟩⟩⟩⟩⟩⟩⟩⟩
theorem open_Task {H : Type} {enc : TypeId × Value → H} {W : World} {base : Nat} {v : Value} {d : DataW H} {p : List MemPlace} (o : Value.okWide Try.prog W .any base 39 v) (h : DataW.Trod enc Try.prog W 0 (fun _ => true) true 39 v d p) :
    ∃ (x0 : Int) (x1 : Int) (x2 : Int) (x3 : ByteArray) (x4 : Int) (x5 : Int) (x6 : Int) (x7 : Int) (x8 : Int) (x9 : Int) (x10 : Int) (x11 : Int) (x12 : Int) (L0 : List (Int)) (a0 : Option Addr) (c0 : Nat), v = .agg #[.int .i64 x0, .int .i64 x1, .int .i64 x2, .string x3, .int .i64 x4, .int .i64 x5, .int .i64 x6, .int .i64 x7, .int .i64 x8, .int .i64 x9, .int .i64 x10, .int .i64 x11, .int .i64 x12, .slice a0 L0.length c0] ∧ R_Task.rd W W.heap.size ((x0, x1), x2, x3, x4, x5, x6, (x7, x8), x9, x10, x11, x12, L0) [.int .i64 x0, .int .i64 x1, .int .i64 x2, .string x3, .int .i64 x4, .int .i64 x5, .int .i64 x6, .int .i64 x7, .int .i64 x8, .int .i64 x9, .int .i64 x10, .int .i64 x11, .int .i64 x12, .slice a0 L0.length c0] := by
  obtain ⟨⟨⟨x0, x1⟩, x2, x3, x4, x5, x6, ⟨x7, x8⟩, x9, x10, x11, x12, L0⟩, cs, rfl, hr⟩ := open_st opn_Task Try.underlying39 o h
  obtain ⟨a0, c0, rfl, h0⟩ := rdc_Task hr
  exact ⟨x0, x1, x2, x3, x4, x5, x6, x7, x8, x9, x10, x11, x12, L0, a0, c0, rfl, h0⟩
end Go.Proofs.Ytkghodbbgehcoaa.RepC
end
section
namespace Go.Proofs.Ytkghodbbgehcoaa.RepC
open Go.RowKit RowC ValC SpanC KeptC
set_option linter.unusedVariables false
set_option linter.unusedSimpArgs false
theorem sumL_cmI : ∀ L : List Int, sumL I.cm L = L.length
  | [] => rfl
  | x :: xs => by simp only [sumL, sumL_cmI xs, List.length_cons]; show 1 + _ = _; omega
theorem sz_task (x : D_Task) : R_Task.sz x = (tOwner x).size + (tNodes x).length := by
  obtain ⟨⟨x0, x1⟩, x2, x3, x4, x5, x6, ⟨x7, x8⟩, x9, x10, x11, x12, M⟩ := x
  rw [szd_Task]
  have h0 : sumL I.sz M = 0 := sumL_zero (fun _ => rfl) M
  show x3.size + (M.length + sumL I.sz M) = x3.size + M.length
  omega
theorem cv_task (x : D_Task) : R_Task.cv x = (tNodes x).length := by
  obtain ⟨⟨x0, x1⟩, x2, x3, x4, x5, x6, ⟨x7, x8⟩, x9, x10, x11, x12, M⟩ := x
  rw [cvd_Task, sumL_cmI]
theorem cvs_Task {x : D_Task} (h : R_Task.sz x ≤ 1048576) : R_Task.cv x ≤ 8388608 := by
  rw [sz_task] at h
  rw [cv_task]
  omega
theorem taskI_w {x : D_Task} {cs : List Value} {W : World} (h : R_Task.rd W W.heap.size x cs) : Calls Try.prog 26 #[.agg cs.toArray] W fun e w' => e = .returned (.bool (taskB x)) ∧ Below W.heap.size W w' := by
  obtain ⟨⟨x0, x1⟩, x2, x3, x4, x5, x6, ⟨x7, x8⟩, x9, x10, x11, x12, M⟩ := x
  obtain ⟨ba, bc, rfl, k, b⟩ := rd_Task h
  exact (taskP_impl b k).mono fun e w' h => resB_is taskB_iff h
end Go.Proofs.Ytkghodbbgehcoaa.RepC
end
section
namespace Go.Proofs.Ytkghodbbgehcoaa.RepC
open Go.RowKit RowC ValC SpanC KeptC NameC
set_option linter.unusedVariables false
set_option linter.unusedSimpArgs false
theorem RdSl.take {α : Type} {E : Rp α} {W : World} {B : Nat} {L : List α} {a : Option Addr} {cap : Nat} (h : RdSl E W B L a cap) (k : Nat) : RdSl E W B (L.take k) a cap := by
  obtain ⟨h1, h2, h3⟩ := h
  refine ⟨Nat.le_trans (List.length_take_le' _ _) h1, h2, fun hn => ?_⟩
  have hl : 0 < L.length := Nat.lt_of_lt_of_le hn (List.length_take_le' _ _)
  obtain ⟨g, o, ha, hg, hc⟩ := h3 hl
  refine ⟨g, o, ha, hg, fun i x hx => ?_⟩
  rw [List.getElem?_take] at hx
  split at hx
  · exact hc i x hx
  · cases hx
theorem taskS_w {x : D_Task} {cs : List Value} {W : World} (h : R_Task.rd W W.heap.size x cs) : Calls Try.prog 24 #[.agg cs.toArray] W fun e w' => e = .returned (.bool (taskB x)) ∧ Below W.heap.size W w' := by
  obtain ⟨⟨x0, x1⟩, x2, x3, x4, x5, x6, ⟨x7, x8⟩, x9, x10, x11, x12, M⟩ := x
  obtain ⟨ba, bc, rfl, k, b⟩ := rd_Task h
  exact (taskP_spec b k).mono fun e w' h => resB_is taskB_iff h
end Go.Proofs.Ytkghodbbgehcoaa.RepC
end
section
namespace Go.Proofs.Ytkghodbbgehcoaa.PutM
open Go.RowKit
def foldN (n : Int) : Nat := if 0 ≤ n then (2 * n).toNat else (2 * -(n + 1) + 1).toNat
theorem foldN_pos {n : Int} (h : 0 ≤ n) : (2 * n) = (foldN n : Int) := by unfold foldN; rw [if_pos h]; omega
theorem foldN_neg {n : Int} (h : ¬ 0 ≤ n) : (2 * -(n + 1) + 1) = (foldN n : Int) := by unfold foldN; rw [if_neg h]; omega
theorem foldN_lt {n : Int} (h1 : -9223372036854775808 ≤ n) (h2 : n ≤ 9223372036854775807) : foldN n < 18446744073709551616 := by
  unfold foldN; split <;> omega
theorem xor_ones (x : Nat) (h : x < 18446744073709551616) : x ^^^ 18446744073709551615 = 18446744073709551615 - x := by
  have h1 : (BitVec.ofNat 64 x ^^^ BitVec.allOnes 64).toNat = (~~~ (BitVec.ofNat 64 x)).toNat := by rw [BitVec.xor_allOnes]
  rw [BitVec.toNat_xor, BitVec.toNat_not, BitVec.toNat_allOnes, BitVec.toNat_ofNat, Nat.mod_eq_of_lt (by omega)] at h1
  omega
theorem fold_bits {n : Int} (h1 : -9223372036854775808 ≤ n) (h2 : n ≤ 9223372036854775807) :
    bits .xor .u64 (IntKind.u64.wrap (IntKind.u64.wrap n * 2)) (IntKind.u64.wrap (n / 9223372036854775808)) = (foldN n : Int) := by
  simp only [IntKind.wrap_u64]
  by_cases h : 0 ≤ n
  · rw [← foldN_pos h]
    have e1 : n % 18446744073709551616 * 2 % 18446744073709551616 = ((2 * n).toNat : Int) := by omega
    have e2 : n / 9223372036854775808 % 18446744073709551616 = ((0 : Nat) : Int) := by omega
    rw [e1, e2, bits_xor_u64_nat _ _ (by omega) (by omega), Nat.xor_zero]
    omega
  · rw [← foldN_neg h]
    have e1 : n % 18446744073709551616 * 2 % 18446744073709551616 = ((2 * n + 18446744073709551616).toNat : Int) := by omega
    have e2 : n / 9223372036854775808 % 18446744073709551616 = ((18446744073709551615 : Nat) : Int) := by omega
    rw [e1, e2, bits_xor_u64_nat _ _ (by omega) (by omega), xor_ones _ (by omega)]
    omega
def enc (u : Nat) : List UInt8 := if u < 128 then [UInt8.ofNat u] else UInt8.ofNat (u % 128 + 128) :: enc (u / 128)
termination_by u
decreasing_by omega
theorem enc_lt {u : Nat} (h : u < 128) : enc u = [UInt8.ofNat u] := by rw [enc, if_pos h]
theorem enc_ge {u : Nat} (h : ¬ u < 128) : enc u = UInt8.ofNat (u % 128 + 128) :: enc (u / 128) := by rw [enc, if_neg h]
theorem enc_len : ∀ (k u : Nat), u < 128 ^ (k + 1) → 1 ≤ (enc u).length ∧ (enc u).length ≤ k + 1 := by
  intro k
  induction k with
  | zero => intro u h; rw [enc_lt (by simpa using h)]; simp
  | succ k ih =>
    intro u h
    by_cases h1 : u < 128
    · rw [enc_lt h1]; simp
    · rw [enc_ge h1]
      have := ih (u / 128) (by rw [Nat.div_lt_iff_lt_mul (by omega)]; rw [Nat.pow_succ] at h; exact h)
      simp only [List.length_cons]
      omega
theorem enc_len64 {u : Nat} (h : u < 18446744073709551616) : 1 ≤ (enc u).length ∧ (enc u).length ≤ 10 :=
  enc_len 9 u (Nat.lt_of_lt_of_le h (by decide))
theorem ofNat_toNat {u : Nat} (h : u < 256) : ((UInt8.ofNat u).toNat : Int) = (u : Int) := by
  rw [UInt8.toNat_ofNat']; omega
theorem step_ge {l : List UInt8} {z u : Nat} (he : l ++ enc z = enc u) (h : ¬ z < 128) : (l ++ [UInt8.ofNat (z % 128 + 128)]) ++ enc (z / 128) = enc u := by
  rw [← he, enc_ge h]; simp
theorem step_lt {l : List UInt8} {z u : Nat} (he : l ++ enc z = enc u) (h : z < 128) : l ++ [UInt8.ofNat z] = enc u := by
  rw [← he, enc_lt h]
theorem len_le {l : List UInt8} {z u : Nat} (he : l ++ enc z = enc u) (hz : z < 18446744073709551616) (hu : u < 18446744073709551616) : l.length ≤ 9 := by
  have h1 := congrArg List.length he
  have h2 := enc_len64 hz
  have h3 := enc_len64 hu
  rw [List.length_append] at h1
  omega
theorem byte_or (z : Nat) : bits .or .u8 (IntKind.u8.wrap (z : Int)) 128 = ((UInt8.ofNat (z % 128 + 128)).toNat : Int) := by
  have e : IntKind.u8.wrap (z : Int) = ((z % 256 : Nat) : Int) := by simp [IntKind.wrap, IntKind.bits, IntKind.signed]
  rw [e, ofNat_toNat (by omega)]
  have h : ∀ a : Fin 256, bits .or .u8 ((a.val : Nat) : Int) 128 = ((a.val % 128 + 128 : Nat) : Int) := by decide +kernel
  have := h ⟨z % 256, by omega⟩
  simp only at this
  rw [this]
  omega
def bytesOf (l : List UInt8) : ByteArray := ⟨l.toArray⟩
def encB (n : Int) : ByteArray := bytesOf (enc (foldN n))
theorem encB_size {n : Int} (h1 : -9223372036854775808 ≤ n) (h2 : n ≤ 9223372036854775807) : 1 ≤ (encB n).size ∧ (encB n).size ≤ 10 := by
  have := enc_len64 (foldN_lt h1 h2)
  simpa [encB, bytesOf, ByteArray.size] using this
end Go.Proofs.Ytkghodbbgehcoaa.PutM
end
section
namespace Go.Proofs.Ytkghodbbgehcoaa.PutC
open Go.RowKit PutM
theorem info_u8 : (Try.prog.info? 5).map (fun i => (i.zero, i.size, i.bytes)) = some (some (.int .u8 0), 1, 1) := by kernel_rfl
theorem ret_u64 {a b : Int} (h : a = b) : Ending.returned (.int .u64 a) = .returned (.int .u64 b) := by rw [h]
theorem ret_str {a b : ByteArray} (h : a = b) : Ending.returned (.string a) = .returned (.string b) := by rw [h]
theorem fold_spec (n : Int) (w : World) (hn : -9223372036854775808 ≤ n) (hn2 : n ≤ 9223372036854775807) :
    Calls Try.prog 125 #[.int .i64 n] w fun e w' => e = .returned (.int .u64 (foldN n)) ∧ w = w' := by
  by_cases h : 0 ≤ n
  · have H := Lib.hid (foldN_pos h)
    go_enter Try.func125, Try.ntmps125
    go_wp2
    go_ret
    exact ⟨ret_u64 H.out, rfl⟩
  · have H := Lib.hid (foldN_neg h)
    go_enter Try.func125, Try.ntmps125
    go_wp2
    go_ret
    exact ⟨ret_u64 H.out, rfl⟩
theorem fold_impl (n : Int) (w : World) (hn : -9223372036854775808 ≤ n) (hn2 : n ≤ 9223372036854775807) :
    Calls Try.prog 140 #[.int .i64 n] w fun e w' => e = .returned (.int .u64 (foldN n)) ∧ w = w' := by
  have H := Lib.hid (fold_bits hn hn2)
  go_enter Try.func140, Try.ntmps140
  go_wp2
  go_ret
  exact ⟨ret_u64 H.out, rfl⟩
def Own (B : Nat) (w : World) (v : Value) (l : List UInt8) : Prop := w.ownsRow B 5 1 v l.length (l.map fun c => .int .u8 (c.toNat : Int))
theorem one_map (l : List UInt8) (c : UInt8) : (l.map fun c => Value.int .u8 (c.toNat : Int)) ++ [Value.int .u8 (c.toNat : Int)] = (l ++ [c]).map fun c => Value.int .u8 (c.toNat : Int) := by simp
theorem conv_of_own {B : Nat} {w : World} {v : Value} {l : List UInt8} (h : w.ownsRow B 5 1 v l.length (l.map fun c => Value.int .u8 (c.toNat : Int))) (hne : l ≠ []) :
    (convert 22 9 v).run Try.prog w = .ok (.string (bytesOf l)) w := by
  have hc := fun g hg j u hj => World.ownsRow.cells h (g := g) hg j u hj
  rcases h with ⟨_, ⟨_, hn⟩ | ⟨g, cap, cur, rfl, _⟩⟩
  · exact absurd (List.length_eq_zero_iff.1 hn) hne
  · exact run_convert_bytes_back w 22 9 5 ⟨g, 0, none⟩ cap l Try.underlying22 Try.underlying5 Try.underlying9 (fun j hj => hc g rfl j _ (by simp [List.getElem?_eq_getElem hj]))
set_option maxRecDepth 100000 in
set_option maxHeartbeats 800000 in
theorem put_spec (n : Int) (w : World) (hn : -9223372036854775808 ≤ n) (hn2 : n ≤ 9223372036854775807) :
    Calls Try.prog 98 #[.int .i64 n] w fun e w' => e = .returned (.string (encB n)) ∧ Below w.heap.size w w' := by
  have hf := foldN_lt hn hn2
  have Hn := Lib.hid (And.intro hn hn2)
  have He : Hid (encB n = bytesOf (enc (foldN n))) := Lib.hid rfl
  obtain ⟨i0, hi, hz0, hz1, hz2⟩ := info_parts info_u8
  have H0 := Lib.hid hi
  have H1 := Lib.hid hz0
  have H2 := Lib.hid hz1
  have H3 := Lib.hid hz2
  clear hi hz0 hz1 hz2 hn hn2
  go_enter Try.func98, Try.ntmps98
  go_wp2_with (go_at_call 125; refine (fold_spec _ _ Hn.out.1 Hn.out.2).mono ?_; rintro e w' ⟨rfl, rfl⟩)
  generalize foldN n = u at *
  go_loopw [3, 4] (fun x v wr => ∃ (z : Nat) (l : List UInt8), x = .int .u64 (z : Int) ∧ z < 18446744073709551616 ∧ l ++ enc z = enc u ∧ Own w.heap.size wr v l ∧ Below w.heap.size w wr) (fun x _ _ => (intOf x).toNat)
  case atStart => exact ⟨u, [], rfl, hf, rfl, World.ownsRow_made _ _ _ (Nat.le_refl _) (by decide) (by simp), (Below.refl _ _).alloc (Nat.le_refl _) _⟩
  case round =>
    obtain ⟨z, l, rfl, hz, he, hown, hb⟩ := hrel
    have hl := len_le he hz hf
    have HE := Lib.hid he
    have HO := Lib.hid hown
    clear he hown
    by_cases hlt : z < 128
    · have Hs := Lib.hid (step_lt HE.out hlt)
      have Hz := Lib.hid (ofNat_toNat (u := z) (by omega))
      go_wp2_with (at_builtin; refine wpList_append_own _ rfl _ _ 22 rfl w.heap.size 5 i0 (.int .u8 0) 1 1 Try.underlying22 H0.out H1.out H2.out H3.out rfl (by decide) _ _ _ rfl (World.ownsRow.alloc HO.out _) ⟨wr.heap.size, 0, none⟩ 1 1 [_] rfl rfl (cell_one_new _ _ _) ?c1 ?c2 ?c3 ?c4 ?_)
      case c1 => intro x hx; simp at hx; subst hx; rfl
      case c2 => unfold maxLen; omega
      case c3 => omega
      case c4 => have := hb.size; simp; omega
      · intro v' w1 hown' hgrow _
        have hB := Below.grown (hb.alloc hb.size _) hgrow (by have := hb.size; simp; omega) (fun k hk => (World.ownsRow.lt HO.out k hk).1)
        rw [← Hz.out, one_map] at hown'
        have hl2 : (l ++ [UInt8.ofNat z]).length = l.length + 1 := by simp
        rw [← hl2] at hown'
        have hconv := conv_of_own hown' (by simp)
        rw [Hs.out] at hconv
        have HB := Lib.hid hB
        clear hown' hgrow hB hl2 hb
        go_wp2
        go_ret
        exact ⟨ret_str He.out.symm, HB.out⟩
    · have Hs := Lib.hid (step_ge HE.out hlt)
      have Hz := Lib.hid (ofNat_toNat (u := z % 128 + 128) (by omega))
      go_wp2_with (at_builtin; refine wpList_append_own _ rfl _ _ 22 rfl w.heap.size 5 i0 (.int .u8 0) 1 1 Try.underlying22 H0.out H1.out H2.out H3.out rfl (by decide) _ _ _ rfl (World.ownsRow.alloc HO.out _) ⟨wr.heap.size, 0, none⟩ 1 1 [_] rfl rfl (cell_one_new _ _ _) ?c1 ?c2 ?c3 ?c4 ?_)
      case c1 => intro x hx; simp at hx; subst hx; rfl
      case c2 => unfold maxLen; omega
      case c3 => omega
      case c4 => have := hb.size; simp; omega
      · intro v' w1 hown' hgrow _
        have hB := Below.grown (hb.alloc hb.size _) hgrow (by have := hb.size; simp; omega) (fun k hk => (World.ownsRow.lt HO.out k hk).1)
        have e1 : ((z : Int) % 128 + 128) = ((z % 128 + 128 : Nat) : Int) := by omega
        rw [e1, ← Hz.out, one_map] at hown'
        have hl2 : (l ++ [UInt8.ofNat (z % 128 + 128)]).length = l.length + 1 := by simp
        rw [← hl2] at hown'
        have HB := Lib.hid hB
        have HW := Lib.hid hown'
        clear hown' hgrow hB hl2 hb e1
        go_wp2
        go_roundw
        case rel => exact ⟨z / 128, l ++ [UInt8.ofNat (z % 128 + 128)], by go_num, by omega, Hs.out, HW.out, HB.out⟩
        case measure => simp [intOf]; omega
def Row (B : Nat) (wr : World) (l : List UInt8) : Prop :=
  (∀ j, (h : j < l.length) → wr.cell? ⟨B, j, none⟩ = some (.int .u8 (l[j].toNat : Int))) ∧ (∀ j, j < 10 → ∃ v, wr.cell? ⟨B, j, none⟩ = some v) ∧ (∀ j, wr.frozen? ⟨B, j, none⟩ = false)
theorem row_store {B : Nat} {wr : World} {l : List UInt8} (h : Row B wr l) (hl : l.length ≤ 9) (c : UInt8) : Row B (wr.setCell ⟨B, l.length, none⟩ (.int .u8 (c.toNat : Int))) (l ++ [c]) := by
  obtain ⟨h1, h2, h3⟩ := h
  refine ⟨?_, ?_, ?_⟩
  · intro j hj
    by_cases e : j = l.length
    · subst e
      obtain ⟨v, hv⟩ := h2 l.length (by omega)
      rw [World.cell?_setCell_same _ _ _ hv]
      simp
    · have hj2 : j < l.length := by simp at hj; omega
      rw [World.cell?_setCell_other _ _ _ _ (by simp <;> omega), h1 j hj2]
      simp [List.getElem_append_left hj2]
  · intro j hj
    by_cases e : j = l.length
    · subst e
      obtain ⟨v, hv⟩ := h2 l.length (by omega)
      exact ⟨_, World.cell?_setCell_same _ _ _ hv⟩
    · obtain ⟨v, hv⟩ := h2 j hj
      exact ⟨v, by rw [World.cell?_setCell_other _ _ _ _ (by simp <;> omega), hv]⟩
  · intro j
    rw [World.frozen?_setCell]
    exact h3 j
theorem row_new (w : World) : Row w.heap.size (w.alloc (.cells #[.int .u8 0, .int .u8 0, .int .u8 0, .int .u8 0, .int .u8 0, .int .u8 0, .int .u8 0, .int .u8 0, .int .u8 0, .int .u8 0] 142)) [] := by
  refine ⟨fun j h => absurd h (Nat.not_lt_zero _), ?_, ?_⟩
  · intro j hj
    rw [World.cell?_alloc_new]
    match j, hj with
    | 0, _ | 1, _ | 2, _ | 3, _ | 4, _ | 5, _ | 6, _ | 7, _ | 8, _ | 9, _ => exact ⟨_, rfl⟩
  · intro j
    exact World.frozen?_alloc_new _ _ _ _
theorem slice_at (B k : Nat) (hk : k + 1 ≤ 10) (wx : World) : (Instr.sliceAt 142 (.pointer (some ⟨B, 0, none⟩)) none (some (.int .i64 ((k : Int) + 1))) none).run Try.prog wx = .ok (.slice (some ⟨B, 0, none⟩) (k + 1) 10) wx := by
  have hu : Try.prog.underlying 142 = some (.array (Try.prog.arrayLen 142) (Try.prog.elem 142)) := by kernel_rfl
  have hl : Try.prog.arrayLen 142 = 10 := by kernel_rfl
  have hs : ∀ w, (sizeOf (Try.prog.elem 142)).run Try.prog w = .ok 1 w := fun _ => by kernel_rfl
  rw [run_sliceAt_array_h wx 142 _ hu .i64 _ (by omega) (by rw [hl]; omega), hs, hl]
  have e : ((k : Int) + 1).toNat = k + 1 := by omega
  rw [e]
  simp only [slicedAt, Result.andThen]
  simp [Addr.add]
theorem conv_row {B : Nat} {wr : World} {l : List UInt8} (h : Row B wr l) (cap : Nat) :
    (convert 22 9 (.slice (some ⟨B, 0, none⟩) l.length cap)).run Try.prog wr = .ok (.string (bytesOf l)) wr :=
  run_convert_bytes_back wr 22 9 5 ⟨B, 0, none⟩ cap l Try.underlying22 Try.underlying5 Try.underlying9 (fun j hj => by
    have := h.1 j hj
    cases j <;> simpa [Addr.add] using this)
set_option maxRecDepth 100000 in
set_option maxHeartbeats 800000 in
theorem put_impl (n : Int) (w : World) (hn : -9223372036854775808 ≤ n) (hn2 : n ≤ 9223372036854775807) :
    Calls Try.prog 127 #[.int .i64 n] w fun e w' => e = .returned (.string (encB n)) ∧ Below w.heap.size w w' := by
  have hf := foldN_lt hn hn2
  have Hn := Lib.hid (And.intro hn hn2)
  have He : Hid (encB n = bytesOf (enc (foldN n))) := Lib.hid rfl
  clear hn hn2
  go_enter Try.func127, Try.ntmps127
  go_wp2_with (go_at_call 140; refine (fold_impl _ _ Hn.out.1 Hn.out.2).mono ?_; rintro e w' ⟨rfl, rfl⟩)
  generalize foldN n = u at *
  go_loopw [4, 5] (fun x i wr => ∃ (z : Nat) (l : List UInt8), x = .int .u64 (z : Int) ∧ i = .int .i64 (l.length : Nat) ∧ z < 18446744073709551616 ∧ l ++ enc z = enc u ∧ Row w.heap.size wr l ∧ Below w.heap.size w wr) (fun x _ _ => (intOf x).toNat)
  case atStart => exact ⟨u, [], rfl, rfl, hf, rfl, row_new w, (Below.refl _ _).alloc (Nat.le_refl _) _⟩
  case round =>
    obtain ⟨z, l, rfl, rfl, hz, he, hrow, hb⟩ := hrel
    have hl := len_le he hz hf
    obtain ⟨v0, hv0⟩ := hrow.2.1 l.length (by omega)
    have hfr0 := hrow.2.2 l.length
    have HE := Lib.hid he
    have HR := Lib.hid hrow
    have HB := Lib.hid hb
    clear he hrow hb
    by_cases hlt : z < 128
    · have Hs := Lib.hid (step_lt HE.out hlt)
      have hrow2 := row_store HR.out hl (UInt8.ofNat z)
      rw [ofNat_toNat (by omega)] at hrow2
      have hconv := conv_row hrow2 10
      rw [Hs.out, ← Hs.out] at hconv
      have hsl := slice_at w.heap.size l.length (by omega)
      have hlen : (l ++ [UInt8.ofNat z]).length = l.length + 1 := by simp
      rw [hlen, Hs.out] at hconv
      clear hrow2 hlen
      go_wp2
      go_ret
      exact ⟨ret_str He.out.symm, HB.out.setCell (Nat.le_refl _) _⟩
    · have Hs := Lib.hid (step_ge HE.out hlt)
      have hrow2 := row_store HR.out hl (UInt8.ofNat (z % 128 + 128))
      have Ho := Lib.hid (byte_or z)
      have HR2 := Lib.hid hrow2
      have Hw : Hid (IntKind.u8.wrap (z : Int) = (z : Int) % 256) := Lib.hid (by simp [IntKind.wrap, IntKind.bits, IntKind.signed])
      clear hrow2
      go_wp2
      go_roundw
      case rel => exact ⟨z / 128, l ++ [UInt8.ofNat (z % 128 + 128)], by go_num, by simp, by omega, Hs.out, by rw [← Hw.out, Ho.out]; exact HR2.out, HB.out.setCell (Nat.le_refl _) _⟩
      case measure => simp [intOf]; omega
end Go.Proofs.Ytkghodbbgehcoaa.PutC
end
section
namespace Go.Proofs.Ytkghodbbgehcoaa.ShelfC
open Go.Shelf
def Try.lays169_ren : Go.Shelf.Ren := ⟨fun | 169 => 128 | n => n, fun | 70 => 130 | 9 => 9 | 0 => 0 | 72 => 132 | 37 => 22 | 127 => 143 | 3 => 3 | 5 => 5 | n => n, fun | n => n⟩
theorem Try.lays169 : Go.Proofs.Lays.n169 Try.prog Try.lays169_ren := {
  mixed := by kernel_rfl
  f169 := Try.func128.trans (congrArg some (by kernel_rfl))
  t0 := Try.underlying0
  a0 := Try.isAgg0
  z0 := Try.sizeOf0
  v0 := Try.zeroValue0
  t3 := Try.underlying3
  a3 := Try.isAgg3
  z3 := Try.sizeOf3
  v3 := Try.zeroValue3
  t9 := Try.underlying9
  a9 := Try.isAgg9
  z9 := Try.sizeOf9
  v9 := Try.zeroValue9
  t37 := Try.underlying22
  a37 := Try.isAgg22
  z37 := Try.sizeOf22
  v37 := Try.zeroValue22
  t70 := Try.underlying130
  a70 := Try.isAgg130
  z70 := Try.sizeOf130
  v70 := Try.zeroValue130
  t72 := Try.underlying132
  a72 := Try.isAgg132
  z72 := Try.sizeOf132
  v72 := Try.zeroValue132
  t127 := Try.underlying143
  a127 := Try.isAgg143
  z127 := Try.sizeOf143
  v127 := Try.zeroValue143 }
theorem Try.Builder_Extra_169 : Builder.Extra Try.prog Try.lays169_ren := {
  sizeBuilder := by kernel_rfl
  liesBuilder := by kernel_rfl
  t5 := Try.underlying5
  a5 := Try.isAgg5
  z5 := Try.sizeOf5
  v5 := Try.zeroValue5
  infoByte := by kernel_rfl
  cellsByte := by kernel_rfl
  sizeByte := by kernel_rfl
  neB5 := by decide }
open Go.RowKit in
theorem Try.Builder_String_any (B b : Nat) (l : List UInt8) (w : World) (h : Lib.IsBuilder 132 5 B b (Lib.byteCells l) w) (hBw : B ≤ w.heap.size) :
    Calls Try.prog 128 #[.pointer (some ⟨b, 0, none⟩)] w fun e w' => e = .returned (.string ⟨l.toArray⟩) ∧ Below B w w' := Any.Builder_String_any Try.lays169 Try.Builder_Extra_169 B b l w h hBw
end Go.Proofs.Ytkghodbbgehcoaa.ShelfC
end
section
namespace Go.Proofs.Ytkghodbbgehcoaa.BldC
open Go.RowKit
set_option linter.unusedVariables false
theorem sizeB : (Try.prog.info? 132).map (·.size) = some 2 := by kernel_rfl
theorem liesB : liesAt Try.prog Try.prog.depth 132 (2 / Try.prog.cellsOf 132) 0 132 1 = true := by kernel_rfl
theorem byteI : (Try.prog.info? 5).map (fun i => (i.zero, i.size, i.bytes)) = some (some (.int .u8 0), 1, 1) := by kernel_rfl
set_option maxHeartbeats 1000000 in
set_option maxRecDepth 100000 in
theorem check_used (b : Nat) (w : World) (h0 : w.cell? ⟨b, 0, none⟩ = some (.pointer (some ⟨b, 0, none⟩))) :
    Calls Try.prog 139 #[.pointer (some ⟨b, 0, none⟩)] w fun e w' => e = .returned (.tuple #[]) ∧ w' = w := by
  obtain ⟨j, hj, _⟩ := Option.map_eq_some_iff.1 sizeB
  go_enter Try.func139, Try.ntmps139
  go_wp2
  rw [Lib.run_neq_ptr_same w _ Try.underlying130 hj]
  go_wp2
  go_end0
  exact ⟨rfl, rfl⟩
set_option maxHeartbeats 1000000 in
set_option maxRecDepth 100000 in
theorem check_fresh (b : Nat) (w : World) (h0 : w.cell? ⟨b, 0, none⟩ = some (.pointer none)) (hsh : w.shape? b = some (132, 2)) (hfz : w.frozen? ⟨b, 0, none⟩ = false) :
    Calls Try.prog 139 #[.pointer (some ⟨b, 0, none⟩)] w fun e w' => e = .returned (.tuple #[]) ∧ w' = w.setCell ⟨b, 0, none⟩ (.pointer (some ⟨b, 0, none⟩)) := by
  obtain ⟨j, hj, hjs⟩ := Option.map_eq_some_iff.1 sizeB
  go_enter Try.func139, Try.ntmps139
  go_wp2
  rw [Lib.run_to_unsafe w ⟨b, 0, none⟩ Try.underlying130 Try.underlying147 hj (by rw [hjs]; decide) hsh (Nat.zero_lt_succ 1)]
  simp only [Result.andThen]
  rw [Oper.upon_value]
  go_wp2
  rw [run_callFunc_extern Try.func144 (by kernel_rfl) (by kernel_rfl) (by kernel_rfl) (e := Extern.AbiNoEscape.same) (by kernel_rfl)]
  rw [Lib.run_noEscape]
  simp only [Result.andThen]
  rw [Oper.upon_value]
  go_wp2
  rw [Lib.run_from_unsafe w ⟨b, 0, none⟩ Try.underlying147 Try.underlying130 hj hsh liesB]
  simp only [Result.andThen]
  rw [Oper.upon_value]
  go_wp2
  go_end0
  exact ⟨rfl, rfl⟩
theorem check_any (B b : Nat) (bs : List Value) (w : World) (h : Lib.IsBuilder 132 5 B b bs w) :
    Calls Try.prog 139 #[.pointer (some ⟨b, 0, none⟩)] w fun e w' => e = .returned (.tuple #[]) ∧ (Lib.BuilderAt 132 5 B b (.pointer (some ⟨b, 0, none⟩)) bs w' ∧ Below B w w') := by
  rcases h with h | h
  · refine (check_fresh b w h.cell0 h.shape h.frozen0).mono ?_
    rintro e w' ⟨rfl, rfl⟩
    exact ⟨rfl, h.used _, (Below.refl B w).setCell (p := ⟨b, 0, none⟩) h.1 _⟩
  · refine (check_used b w h.cell0).mono ?_
    rintro e w' ⟨rfl, rfl⟩
    exact ⟨rfl, h, Below.refl B _⟩
set_option maxHeartbeats 2000000 in
set_option maxRecDepth 100000 in
theorem write_any (B b : Nat) (bs : List Value) (s : ByteArray) (w : World) (h : Lib.IsBuilder 132 5 B b bs w) (hlen : bs.length + s.size ≤ 140737488355328) (hBw : B ≤ w.heap.size) :
    Calls Try.prog 126 #[.pointer (some ⟨b, 0, none⟩), .string s] w fun e w' => e = .returned (.tuple #[.int .i64 s.size, .nilIface]) ∧ (Lib.BuilderAt 132 5 B b (.pointer (some ⟨b, 0, none⟩)) (bs ++ Lib.strCells s) w' ∧ Below B w w') := by
  obtain ⟨i0, hi, hz0, hz1, hz2⟩ := info_parts byteI
  go_enter Try.func126, Try.ntmps126
  go_wp2_with (go_at_call 139; refine (check_any B b bs _ h).mono ?_)
  rintro e w1 ⟨rfl, h1, hb1⟩
  obtain ⟨hB, v, hbk, hown, hne⟩ := h1
  have c0 : w1.cell? ⟨b, 0, none⟩ = some (.pointer (some ⟨b, 0, none⟩)) := by rw [Lib.cell_of_heap hbk]; rfl
  have c1 : w1.cell? ⟨b, 1, none⟩ = some v := by rw [Lib.cell_of_heap hbk]; rfl
  go_wp2_with (at_builtin; refine Lib.wpList_append_own_string _ rfl _ _ 22 9 rfl B 5 i0 Try.underlying22 Try.underlying9 hi hz0 hz1 hz2 _ _ _ rfl hown s rfl ?c3 ?c4 ?c5 ?_)
  case c3 => unfold maxLen; omega
  case c4 => omega
  case c5 => have := hb1.size; omega
  intro v' w2 hown' hgrow _
  have hlt : b < w1.heap.size := by
    rcases Nat.lt_or_ge b w1.heap.size with h' | h'
    · exact h'
    · simp [Array.getElem?_eq_none h'] at hbk
  have hb2 : w2.heap[b]? = some (.cells #[.pointer (some ⟨b, 0, none⟩), v] 132 (0, 0)) := by
    rw [hgrow.block b hlt (fun e => hne e.symm)]
    exact hbk
  have d0 : w2.cell? ⟨b, 0, none⟩ = some (.pointer (some ⟨b, 0, none⟩)) := by rw [Lib.cell_of_heap hb2]; rfl
  have d1 : w2.cell? ⟨b, 1, none⟩ = some v := by rw [Lib.cell_of_heap hb2]; rfl
  have f1 : w2.frozen? ⟨b, 1, none⟩ = false := Lib.frozen_of_heap hb2 1
  obtain ⟨ao, n', cap, rfl⟩ : ∃ ao n' cap, v' = .slice ao n' cap := by
    rcases hown'.2 with ⟨hv, _⟩ | ⟨g, cap, cur, hv, _⟩
    · exact ⟨_, _, _, hv⟩
    · exact ⟨_, _, _, hv⟩
  go_wp2
  go_ret2
  refine ⟨rfl, ?_, ?_⟩
  · exact Lib.BuilderAt.put (T := 132) (e := 5) hB hb2 (bs' := bs ++ Lib.strCells s) (by simpa [Lib.strCells_length] using hown') (by decide)
  · exact (hb1.grown hgrow (by have := hb1.size; omega) (fun k hk => (hown.lt k hk).1)).setCell (p := ⟨b, 1, none⟩) hB _
theorem at_below {T e : TypeId} {B b : Nat} {p : Value} {bs : List Value} {W W' : World} (h : Lib.BuilderAt T e B b p bs W) (hb : Below W.heap.size W W') : Lib.BuilderAt T e B b p bs W' := by
  have hlt := h.lt
  obtain ⟨hB, v, hv, hown, hne⟩ := h
  exact ⟨hB, v, (hb.block b hlt).trans hv, hown.kept (row := none) ⟨hb.os, hb.tape, hb.output, hb.size, fun k hk _ => hb.block k hk⟩ (Classical.em _), hne⟩
theorem is_below {T e : TypeId} {B b : Nat} {bs : List Value} {W W' : World} (h : Lib.IsBuilder T e B b bs W) (hb : Below W.heap.size W W') : Lib.IsBuilder T e B b bs W' :=
  h.elim (fun x => .inl (at_below x hb)) (fun x => .inr (at_below x hb))
theorem cells_cat (a b : ByteArray) : Lib.strCells a ++ Lib.strCells b = Lib.strCells (a ++ b) := by
  rw [Lib.strCells_eq, Lib.strCells_eq, Lib.strCells_eq, ← Lib.byteCells_append]
  simp
theorem mk_str (s : ByteArray) : (⟨s.data.toList.toArray⟩ : ByteArray) = s := by cases s; simp
theorem str_any (B b : Nat) (s : ByteArray) (w : World) (h : Lib.IsBuilder 132 5 B b (Lib.strCells s) w) (hBw : B ≤ w.heap.size) :
    Calls Try.prog 128 #[.pointer (some ⟨b, 0, none⟩)] w fun e w' => e = .returned (.string s) ∧ Below B w w' :=
  (ShelfC.Try.Builder_String_any B b s.data.toList w (by rw [Lib.strCells_eq] at h; exact h) hBw).mono fun e w' h => ⟨by rw [h.1, mk_str], h.2⟩
end Go.Proofs.Ytkghodbbgehcoaa.BldC
end
section
namespace Go.Proofs.Ytkghodbbgehcoaa.RepC
open Go.RowKit RowC ValC
set_option linter.unusedVariables false
set_option linter.unusedSimpArgs false
def i64R (n : Int) : Prop := -9223372036854775808 ≤ n ∧ n ≤ 9223372036854775807
def catL : List Int → ByteArray
  | [] => ⟨#[]⟩
  | n :: ns => PutM.encB n ++ catL ns
theorem ba_nil (b : ByteArray) : b ++ (⟨#[]⟩ : ByteArray) = b := by apply ByteArray.ext; simp
theorem ba_nil' (b : ByteArray) : (⟨#[]⟩ : ByteArray) ++ b = b := by apply ByteArray.ext; simp
theorem catL_app : ∀ (L M : List Int), catL (L ++ M) = catL L ++ catL M
  | [], M => by simp only [List.nil_append, catL, ba_nil']
  | n :: ns, M => by simp only [List.cons_append, catL, catL_app ns M, ByteArray.append_assoc]
theorem catL_step {L : List Int} {k : Nat} {x : Int} (hx : L[k]? = some x) : catL (L.take (k + 1)) = catL (L.take k) ++ PutM.encB x := by
  rw [List.take_add_one, hx, Option.toList_some, catL_app]
  simp only [catL, ba_nil]
theorem catL_size : ∀ {L : List Int}, (∀ n ∈ L, i64R n) → (catL L).size ≤ 10 * L.length
  | [], _ => Nat.le_refl _
  | n :: ns, h => by
    have h1 := catL_size (L := ns) fun m hm => h m (List.mem_cons_of_mem _ hm)
    have h2 := h n List.mem_cons_self
    have h3 := (PutM.encB_size h2.1 h2.2).2
    simp only [catL, ByteArray.size_append, List.length_cons]
    omega
theorem putS_at (n : Int) {b : ByteArray} (hb : PutM.encB n = b) (h : i64R n) (w : World) : Calls Try.prog 98 #[.int .i64 n] w fun e w' => e = .returned (.string b) ∧ Below w.heap.size w w' := by
  subst hb
  exact PutC.put_spec n w h.1 h.2
theorem putI_at (n : Int) {b : ByteArray} (hb : PutM.encB n = b) (h : i64R n) (w : World) : Calls Try.prog 127 #[.int .i64 n] w fun e w' => e = .returned (.string b) ∧ Below w.heap.size w w' := by
  subst hb
  exact PutC.put_impl n w h.1 h.2
set_option maxRecDepth 100000 in
set_option maxHeartbeats 1600000 in
theorem putnums_w {L : List Int} {a : Option Addr} {cap : Nat} {W : World} (hl : L.length ≤ 1000000) (hR : ∀ n ∈ L, i64R n) (h : RdSl I W W.heap.size L a cap) :
    Calls Try.prog 100 #[.slice a L.length cap] W fun e w' => e = .returned (.string (catL L)) ∧ Below W.heap.size W w' := by
  have H := Lib.hid h
  have HR := Lib.hid hR
  clear h hR
  obtain ⟨V, hV⟩ : ∃ V, V = W.alloc (.cells #[.pointer none, .slice none 0 0] 132) := ⟨_, rfl⟩
  have hbV : Below W.heap.size W V := by rw [hV]; exact (Below.refl _ _).alloc (Nat.le_refl _) _
  have HBV := Lib.hid hbV
  have HI : Hid (Lib.IsBuilder 132 5 W.heap.size W.heap.size [] V) := Lib.hid (by rw [hV]; exact (Lib.fresh_isBuilder 132 5 W))
  have HA := Lib.hid (H.out.below I_ok hbV)
  clear hbV
  go_enter Try.func100, Try.ntmps100
  go_wp2_with fail
  rw [← hV]
  clear hV
  go_loopw [8] (fun i wr => ∃ k : Nat, k ≤ L.length ∧ i = .int .i64 k ∧ Hid (Lib.IsBuilder 132 5 W.heap.size W.heap.size (Lib.strCells (catL (L.take k))) wr) ∧ Below W.heap.size W wr) (fun i _ => L.length - (intOf i).toNat)
  case atStart => exact ⟨0, Nat.zero_le _, rfl, HI, HBV.out⟩
  case round =>
    obtain ⟨k, hk, rfl, HBu, hB⟩ := hrel
    have HB := Lib.hid hB
    have hsz := hB.size
    by_cases hlt : k < L.length
    · obtain ⟨x, hx⟩ := el_some hlt
      have HST := Lib.hid (catL_step hx)
      have HRX := Lib.hid (HR.out x (List.mem_of_getElem? hx))
      have hcs : (catL (L.take k)).size ≤ 10 * L.length := Nat.le_trans (catL_size fun n hn => HR.out n (List.mem_of_mem_take hn)) (by have := List.length_take_le' k L; omega)
      obtain ⟨g, o, us, rfl, hg, hu, hr⟩ := (H.out.below I_ok hB).at_ hx
      obtain rfl : us = [_] := hr
      have hc0 : wr.cell? ⟨g, o + k, none⟩ = some (.int .i64 x) := by simpa [show I.size = 1 from rfl] using hu 0 _ rfl
      have hi0 : (0 : Int) ≤ (k : Int) := Int.natCast_nonneg _
      have hi1 : (k : Int) < (L.length : Int) := by omega
      obtain ⟨b, hb0⟩ : ∃ b, PutM.encB x = b := ⟨_, rfl⟩
      have hbs : b.size ≤ 10 := by rw [← hb0]; exact (PutM.encB_size HRX.out.1 HRX.out.2).2
      have HB0 := Lib.hid hb0
      rw [hb0] at HST
      clear hB hx hu hb0
      go_wp2_with fail
      refine (putI_at x HB0.out HRX.out _).mono ?_
      rintro e w1 ⟨rfl, hb⟩
      have HB1 := Lib.hid (HB.out.trans (hb.mono hsz))
      have HI1 := Lib.hid (BldC.is_below HBu.out hb)
      clear hb hc0
      go_wp2_with fail
      refine (BldC.write_any _ _ _ b _ HI1.out (by rw [Lib.strCells_length]; omega) HB1.out.size).mono ?_
      rintro e w2 ⟨rfl, hw, hb⟩
      have HB2 := Lib.hid (HB1.out.trans hb)
      have HI2 := Lib.hid (show Lib.IsBuilder 132 5 W.heap.size W.heap.size (Lib.strCells (catL (L.take (k + 1)))) w2 from by rw [HST.out, ← BldC.cells_cat]; exact .inr hw)
      clear hw hb
      go_wp2
      go_roundw
      case rel => exact ⟨k + 1, by omega, by go_num, HI2, HB2.out⟩
      case measure => simp [intOf]; omega
    · have hdl : decide ((k : Int) < (L.length : Int)) = false := decide_eq_false (by omega)
      obtain rfl : k = L.length := by omega
      have HBE := Lib.hid (show Lib.IsBuilder 132 5 W.heap.size W.heap.size (Lib.strCells (catL L)) wr from by have := HBu.out; rwa [List.take_length] at this)
      clear hB HBu
      go_wp2_with fail
      refine (BldC.str_any _ _ _ _ HBE.out HB.out.size).mono ?_
      rintro e w1 ⟨rfl, hb⟩
      have HB1 := Lib.hid (HB.out.trans hb)
      clear hb
      go_wp2
      go_ret
      exact ⟨rfl, HB1.out⟩
end Go.Proofs.Ytkghodbbgehcoaa.RepC
end
section
namespace Go.Proofs.Ytkghodbbgehcoaa.JoinC
open Go.RowKit PutM PutC
theorem info_size : (Try.prog.info? 5).map (·.size) = some 1 := by kernel_rfl
theorem under_elem : Try.prog.underlying 22 = some (.slice (Try.prog.elem 22)) := by kernel_rfl
theorem size_elem (w : World) : (sizeOf (Try.prog.elem 22)).run Try.prog w = .ok 1 w := by kernel_rfl
theorem make_bytes (w : World) (n : Int) (h0 : 0 ≤ n) (h1 : n ≤ 140737488355328) :
    ∃ w1, (Instr.makeSlice 22 (.int .i64 n) (.int .i64 n)).run Try.prog w = .ok (.slice (some ⟨w.heap.size, 0, none⟩) n.toNat n.toNat) w1 ∧
      (∃ cur : Array Value, cur.size = n.toNat ∧ w1.heap[w.heap.size]? = some (.cells cur 5 (0, 0))) ∧ Below w.heap.size w w1 ∧ w.heap.size < w1.heap.size := by
  obtain ⟨i, hi, hz0, hz1, hz2⟩ := info_parts info_u8
  refine ⟨_, run_make w 22 5 i _ Try.underlying22 hi hz0 .i64 .i64 n n h0 (Int.le_refl _) (by rw [hz2]; omega) (by omega), ?_, (Below.refl _ _).alloc (Nat.le_refl _) _, ?_⟩
  · refine ⟨_, ?_, heap_alloc_new _ _⟩
    rw [size_madeCells, hz1]
    omega
  · show _ < (w.heap.push _).size
    simp
theorem copy_str (w : World) (g o dLen dCap : Nat) (s : ByteArray) (cur : Array Value) (ty : TypeId) (hg : w.heap[g]? = some (.cells cur 5 (0, 0))) (hle : s.size ≤ dLen) (hfit : o + s.size ≤ cur.size) :
    ∃ w1, (Builtin.copy_ #[22, 9] ty #[.slice (some ⟨g, o, none⟩) dLen dCap, .string s]).run Try.prog w = .ok (goInt s.size) w1 ∧
      w1.heap[g]? = some (.cells (cur.toList.take o ++ Lib.byteCells s.data.toList ++ cur.toList.drop (o + s.size)).toArray 5 (0, 0)) ∧ Below g w w1 :=
  ⟨_, Lib.run_copy_row_string w 22 9 ty 5 g o dLen dCap s cur 5 Try.underlying22 info_size hg hle hfit, setRow_heap w g cur _ _ _ hg, below_setRow (Below.refl _ _) (Nat.le_refl _) _⟩
theorem slice_from (w : World) (g n k : Nat) (hk : k ≤ n) :
    ∃ o, (Instr.slice 22 (.slice (some ⟨g, 0, none⟩) n n) (some (.int .i64 (k : Int))) none none).run Try.prog w = .ok (.slice (some ⟨g, o, none⟩) (n - k) (n - k)) w ∧ (o = k ∨ (n - k = 0 ∧ o = 0)) := by
  rw [run_slice_l w 22 _ n n under_elem .i64 _ (by omega) (by omega), size_elem]
  by_cases h : n = k
  · subst h
    exact ⟨0, by simp [sliced], .inr ⟨by omega, rfl⟩⟩
  · refine ⟨k, ?_, .inl rfl⟩
    by_cases h0 : k = 0
    · subst h0
      simp [sliced, Addr.add]
    · simp [sliced, h, Addr.add, h0]
theorem two_copies (cur : List Value) (a b : ByteArray) (o : Nat) (hc : cur.length = a.size + b.size) (ho : o = a.size ∨ (b.size = 0 ∧ o = 0)) :
    (((([] ++ Lib.byteCells a.data.toList ++ cur.drop a.size)).take o) ++ Lib.byteCells b.data.toList ++ ((([] ++ Lib.byteCells a.data.toList ++ cur.drop a.size)).drop (o + b.size))) = Lib.byteCells (a.data.toList ++ b.data.toList) := by
  have la : (Lib.byteCells a.data.toList).length = a.size := by rw [Lib.byteCells_length, ← Lib.size_eq]
  have lb : (Lib.byteCells b.data.toList).length = b.size := by rw [Lib.byteCells_length, ← Lib.size_eq]
  rw [Lib.byteCells_append]
  rcases ho with rfl | ⟨h0, rfl⟩
  · rw [List.nil_append, List.take_append_of_le_length (by omega), List.take_of_length_le (by omega), List.drop_append, List.drop_of_length_le (by omega), List.nil_append, List.drop_drop, List.drop_of_length_le (by omega), List.append_nil]
  · have hb : Lib.byteCells b.data.toList = [] := List.eq_nil_of_length_eq_zero (by omega)
    rw [hb, h0]
    simp
    omega
theorem bytes_append (a b : ByteArray) : bytesOf (a.data.toList ++ b.data.toList) = a ++ b := by
  apply ByteArray.ext
  simp [bytesOf]
theorem conv_cells {w : World} {g : Nat} {l : List UInt8} (h : w.heap[g]? = some (.cells (Lib.byteCells l).toArray 5 (0, 0))) (cap : Nat) :
    (convert 22 9 (.slice (some ⟨g, 0, none⟩) l.length cap)).run Try.prog w = .ok (.string (bytesOf l)) w :=
  run_convert_bytes_back w 22 9 5 ⟨g, 0, none⟩ cap l Try.underlying22 Try.underlying5 Try.underlying9 (fun j hj => by
    have e : (⟨g, 0, none⟩ : Addr).add j = ⟨g, j, none⟩ := by cases j <;> simp [Addr.add]
    rw [e]
    simp [World.cell?, h, Lib.byteCells, hj])
set_option maxRecDepth 100000 in
set_option maxHeartbeats 800000 in
theorem joined_any (a b : ByteArray) (w : World) (hab : a.size + b.size ≤ 140737488355328) :
    Calls Try.prog 129 #[.string a, .string b] w fun e w' => e = .returned (.string (a ++ b)) ∧ Below w.heap.size w w' := by
  obtain ⟨w1, hmk, ⟨cur, hcs, hg1⟩, hb1, hz1⟩ := make_bytes w ((a.size : Int) + (b.size : Int)) (by omega) (by omega)
  have hn : ((a.size : Int) + (b.size : Int)).toNat = a.size + b.size := by omega
  rw [hn] at hmk hcs
  obtain ⟨w2, hc1, hg2, hb2⟩ := copy_str w1 w.heap.size 0 (a.size + b.size) (a.size + b.size) a cur 3 hg1 (by omega) (by omega)
  obtain ⟨o, hsl, ho⟩ := slice_from w2 w.heap.size (a.size + b.size) a.size (by omega)
  have hn2 : a.size + b.size - a.size = b.size := by omega
  rw [hn2] at hsl ho
  have la : (Lib.byteCells a.data.toList).length = a.size := by rw [Lib.byteCells_length, ← Lib.size_eq]
  obtain ⟨w3, hc2, hg3, hb3⟩ := copy_str w2 w.heap.size o b.size b.size b _ 3 hg2 (Nat.le_refl _) (by simp only [List.take_zero, List.nil_append, List.size_toArray, List.length_append, la, List.length_drop, Array.length_toList, hcs]; omega)
  simp only [List.take_zero, Nat.zero_add] at hg3
  rw [two_copies cur.toList a b o (by simpa using hcs) ho] at hg3
  have lab : (a.data.toList ++ b.data.toList).length = a.size + b.size := by rw [List.length_append, ← Lib.size_eq, ← Lib.size_eq]
  have hconv := conv_cells hg3 (a.size + b.size)
  rw [lab, bytes_append a b] at hconv
  have HB : Hid (Below w.heap.size w w3) := Lib.hid ((hb1.trans hb2).trans hb3)
  clear hg1 hg2 hg3 hb1 hb2 hb3 hcs hn hn2 la lab ho hz1
  go_enter Try.func129, Try.ntmps129
  go_wp2
  go_ret
  exact ⟨rfl, HB.out⟩
def putT (s : ByteArray) : ByteArray := if s.size ≤ 8000 then encB s.size ++ s else ByteArray.empty
theorem putT_in {s : ByteArray} (h : s.size ≤ 8000) : putT s = encB s.size ++ s := by unfold putT; rw [if_pos h]
theorem putT_out {s : ByteArray} (h : ¬ s.size ≤ 8000) : putT s = ByteArray.empty := by unfold putT; rw [if_neg h]
theorem text_impl (s : ByteArray) (w : World) (hs : s.size ≤ maxLen) :
    Calls Try.prog 101 #[.string s] w fun e w' => e = .returned (.string (putT s)) ∧ Below w.heap.size w w' := by
  unfold maxLen at hs
  by_cases h : s.size ≤ 8000
  · have H := Lib.hid (putT_in h)
    go_enter Try.func101, Try.ntmps101
    go_wp2_with fail
    refine (put_impl _ _ (by omega) (by omega)).mono ?_
    rintro e w1 ⟨rfl, hb1⟩
    have HB1 := Lib.hid hb1
    have ⟨_, hz⟩ := encB_size (n := (s.size : Int)) (by omega) (by omega)
    clear hb1
    go_wp2_with fail
    refine (joined_any _ _ _ (by omega)).mono ?_
    rintro e w2 ⟨rfl, hb2⟩
    have HB2 := Lib.hid (HB1.out.trans (hb2.mono HB1.out.size))
    clear hb2
    go_wp2
    go_ret
    exact ⟨ret_str H.out.symm, HB2.out⟩
  · have H := Lib.hid (putT_out h)
    go_enter Try.func101, Try.ntmps101
    go_wp2
    go_ret
    exact ⟨ret_str H.out.symm, Below.refl _ _⟩
theorem text_spec (s : ByteArray) (w : World) (hs : s.size ≤ maxLen) :
    Calls Try.prog 99 #[.string s] w fun e w' => e = .returned (.string (putT s)) ∧ Below w.heap.size w w' := by
  unfold maxLen at hs
  by_cases h : s.size ≤ 8000
  · have H := Lib.hid (putT_in h)
    go_enter Try.func99, Try.ntmps99
    go_wp2_with fail
    refine (put_spec _ _ (by omega) (by omega)).mono ?_
    rintro e w1 ⟨rfl, hb1⟩
    have HB1 := Lib.hid hb1
    have ⟨_, hz⟩ := encB_size (n := (s.size : Int)) (by omega) (by omega)
    generalize encB (s.size : Int) = x at *
    have hadd := fun w : World => run_string_add_sum (P := Try.prog) w x s (by omega)
    clear hb1
    go_wp2
    go_ret
    exact ⟨ret_str H.out.symm, HB1.out⟩
  · have H := Lib.hid (putT_out h)
    go_enter Try.func99, Try.ntmps99
    go_wp2
    go_ret
    exact ⟨ret_str H.out.symm, Below.refl _ _⟩
end Go.Proofs.Ytkghodbbgehcoaa.JoinC
end
section
namespace Go.Proofs.Ytkghodbbgehcoaa.RepC
open Go.RowKit RowC ValC SpanC KeptC NameC
set_option linter.unusedVariables false
set_option linter.unusedSimpArgs false
def preT (x0 x1 x2 : Int) (x3 : ByteArray) (x4 x5 x6 x7 x8 x9 x10 x11 x12 : Int) (M : List Int) : ByteArray := (((((((((((((PutM.encB x0 ++ PutM.encB x1) ++ PutM.encB x2) ++ JoinC.putT x3) ++ PutM.encB x4) ++ PutM.encB x5) ++ PutM.encB x6) ++ PutM.encB x7) ++ PutM.encB x8) ++ PutM.encB x9) ++ PutM.encB x10) ++ PutM.encB x11) ++ PutM.encB x12) ++ PutM.encB (M.length : Int))
def encT : D_Task → ByteArray
  | ((x0, x1), x2, x3, x4, x5, x6, (x7, x8), x9, x10, x11, x12, M) => preT x0 x1 x2 x3 x4 x5 x6 x7 x8 x9 x10 x11 x12 M ++ catL M
noncomputable def bytesT (x : D_Task) : ByteArray := if taskB x = true then encT x else ⟨#[]⟩
theorem bytesT_yes {x : D_Task} (h : taskB x = true) : bytesT x = encT x := if_pos h
theorem bytesT_no {x : D_Task} (h : taskB x = false) : bytesT x = ⟨#[]⟩ := if_neg (by rw [h]; decide)
theorem taskR_small {x0 x1 x2 : Int} {x3 : ByteArray} {x4 x5 x6 x7 x8 x9 x10 x11 x12 : Int} {M : List Int} (h : TaskR ((x0, x1), x2, x3, x4, x5, x6, (x7, x8), x9, x10, x11, x12, M)) : (0 ≤ x0 ∧ x0 ≤ 2000000) ∧ (0 ≤ x1 ∧ x1 ≤ 2000000) ∧ (0 ≤ x2 ∧ x2 ≤ 2000000) ∧ (0 ≤ x4 ∧ x4 ≤ 2000000) ∧ (0 ≤ x5 ∧ x5 ≤ 2000000) ∧ (0 ≤ x6 ∧ x6 ≤ 2000000) ∧ (0 ≤ x7 ∧ x7 ≤ 2000000) ∧ (0 ≤ x8 ∧ x8 ≤ 2000000) ∧ (0 ≤ x9 ∧ x9 ≤ 2000000) ∧ (0 ≤ x10 ∧ x10 ≤ 2000000) ∧ (0 ≤ x11 ∧ x11 ≤ 2000000) ∧ (0 ≤ x12 ∧ x12 ≤ 2000000) ∧ M.length ≤ 6 ∧ x3.size ≤ 20 ∧ ∀ n ∈ M, 0 ≤ n ∧ n ≤ 2000000 := by
  obtain ⟨h0, h1, h2, h3, h4, h5, h6, h7, hd, hp, hn⟩ := h
  have r0 := rB_bd h0
  have r1 := (isB_iff _ _ _).1 h1
  have r3 := (isB_iff _ _ _).1 h3
  have r4 := (isB_iff _ _ _).1 h4
  have r5 := (isB_iff _ _ _).1 h5
  have r6 := (isB_iff _ _ _).1 h6
  have r7 := (isB_iff _ _ _).1 h7
  have rN := (nameB_iff.1 h2).2.1
  have rD : (0 ≤ x7 ∧ x7 ≤ 3) ∧ (0 ≤ x8 ∧ x8 ≤ 7) ∧ (0 ≤ x9 ∧ x9 ≤ 12) := by
    by_cases e : x9 = 0
    · obtain ⟨e1, e2⟩ := hd.1 e
      omega
    · obtain ⟨e1, e2, _⟩ := hd.2 e
      have e3 := (isB_iff _ _ _).1 e1
      have e4 : LabC.rB x7 x8 = true := by
        cases hr : LabC.rB x7 x8 with
        | true => rfl
        | false => rw [LabC.below_no1 hr] at e2; cases e2
      have e5 := rB_bd e4
      omega
  have rS : (0 ≤ x12 ∧ x12 ≤ 1000000) ∧ M.length ≤ 6 ∧ ∀ n ∈ M, 0 ≤ n ∧ n ≤ 5 := by
    by_cases hs : Has x11 M
    · obtain ⟨e1, e2, e3⟩ := hp hs
      have e4 := (isB_iff _ _ _).1 e1
      refine ⟨by omega, nodesR_len e3, fun n hm => ?_⟩
      obtain ⟨i, hi, rfl⟩ := List.mem_iff_getElem.1 hm
      have := (isB_iff _ _ _).1 (e3 i hi _ (List.getElem?_eq_getElem hi)).1
      exact ⟨by omega, by omega⟩
    · obtain ⟨e1, e2⟩ := hn hs
      have : M = [] := List.eq_nil_of_length_eq_zero e2
      subst this
      exact ⟨by omega, by simp, fun n hm => by cases hm⟩
  refine ⟨by omega, by omega, by omega, by omega, by omega, by omega, by omega, by omega, by omega, by omega, by omega, by omega, rS.2.1, by simpa using rN, fun n hm => by have := rS.2.2 n hm; omega⟩
theorem enc10 {n : Int} (h : 0 ≤ n ∧ n ≤ 2000000) : (PutM.encB n).size ≤ 10 := (PutM.encB_size (by omega) (by omega)).2
theorem putT30 {s : ByteArray} (h : s.size ≤ 20) : (JoinC.putT s).size ≤ 30 := by
  rw [JoinC.putT_in (by omega), ByteArray.size_append]
  have := (PutM.encB_size (n := (s.size : Int)) (by omega) (by omega)).2
  omega
theorem r64 {n : Int} (h : 0 ≤ n ∧ n ≤ 2000000) : i64R n := ⟨by omega, by omega⟩
theorem textS_at (s : ByteArray) {b : ByteArray} (hb : JoinC.putT s = b) (hs : s.size ≤ maxLen) (w : World) : Calls Try.prog 99 #[.string s] w fun e w' => e = .returned (.string b) ∧ Below w.heap.size w w' := by
  subst hb
  exact JoinC.text_spec s w hs
theorem textI_at (s : ByteArray) {b : ByteArray} (hb : JoinC.putT s = b) (hs : s.size ≤ maxLen) (w : World) : Calls Try.prog 101 #[.string s] w fun e w' => e = .returned (.string b) ∧ Below w.heap.size w w' := by
  subst hb
  exact JoinC.text_impl s w hs
set_option maxRecDepth 100000 in
set_option maxHeartbeats 3200000 in
theorem bytes_spec {x0 x1 x2 : Int} {x3 : ByteArray} {x4 x5 x6 x7 x8 x9 x10 x11 x12 : Int} {M : List Int} {ba : Option Addr} {bc : Nat} {W : World} (hx : R_Task.rd W W.heap.size ((x0, x1), x2, x3, x4, x5, x6, (x7, x8), x9, x10, x11, x12, M) [.int .i64 x0, .int .i64 x1, .int .i64 x2, .string x3, .int .i64 x4, .int .i64 x5, .int .i64 x6, .int .i64 x7, .int .i64 x8, .int .i64 x9, .int .i64 x10, .int .i64 x11, .int .i64 x12, .slice ba M.length bc]) :
    Calls Try.prog 46 #[.agg #[.int .i64 x0, .int .i64 x1, .int .i64 x2, .string x3, .int .i64 x4, .int .i64 x5, .int .i64 x6, .int .i64 x7, .int .i64 x8, .int .i64 x9, .int .i64 x10, .int .i64 x11, .int .i64 x12, .slice ba M.length bc]] W fun e w' => e = .returned (.string (bytesT ((x0, x1), x2, x3, x4, x5, x6, (x7, x8), x9, x10, x11, x12, M))) ∧ Below W.heap.size W w' := by
  have HX := Lib.hid hx
  obtain ⟨_, _, he, hk, b_x3⟩ := rd_Task hx
  cases he
  have HK := Lib.hid hk
  have HX3 := Lib.hid b_x3
  have hn : M.length ≤ 9223372036854775807 := by have h1 := hk.1; have h2 := hk.2.1; unfold maxLen at h2; omega
  clear hx hk b_x3
  obtain ⟨wo, hwo⟩ : ∃ w, w = W.alloc (.cells #[.int .i64 x0, .int .i64 x1, .int .i64 x2, .string x3, .int .i64 x4, .int .i64 x5, .int .i64 x6, .int .i64 x7, .int .i64 x8, .int .i64 x9, .int .i64 x10, .int .i64 x11, .int .i64 x12, .slice ba M.length bc] 43) := ⟨_, rfl⟩
  have HB0 := Lib.hid (show Below W.heap.size W wo from by rw [hwo]; exact (Below.refl _ _).alloc (Nat.le_refl _) _)
  have HP0 := Lib.hid (show Blk wo W.heap.size 43 #[.int .i64 x0, .int .i64 x1, .int .i64 x2, .string x3, .int .i64 x4, .int .i64 x5, .int .i64 x6, .int .i64 x7, .int .i64 x8, .int .i64 x9, .int .i64 x10, .int .i64 x11, .int .i64 x12, .slice ba M.length bc] from by rw [hwo]; exact Blk.new _ _ _)
  have HX0 := Lib.hid (R_Task_ok.rd_more (R_Task_ok.rd_below HX.out HB0.out) HB0.out.size)
  have q0 := HP0.out.at_ 0 rfl
  have q1 := HP0.out.at_ 1 rfl
  have q2 := HP0.out.at_ 2 rfl
  have q3 := HP0.out.at_ 3 rfl
  have q4 := HP0.out.at_ 4 rfl
  have q5 := HP0.out.at_ 5 rfl
  have q6 := HP0.out.at_ 6 rfl
  have q7 := HP0.out.at_ 7 rfl
  have q8 := HP0.out.at_ 8 rfl
  have q9 := HP0.out.at_ 9 rfl
  have q10 := HP0.out.at_ 10 rfl
  have q11 := HP0.out.at_ 11 rfl
  have q12 := HP0.out.at_ 12 rfl
  have q13 := HP0.out.at_ 13 rfl
  go_enter Try.func46, Try.ntmps46
  go_upto_region 1 with fail
  rw [← hwo]
  clear hwo
  go_wp2_with fail
  refine (taskS_w HX0.out).mono ?_
  rintro e w1 ⟨rfl, hb⟩
  have HB1 := Lib.hid (HB0.out.trans (hb.mono HB0.out.size))
  have HP1 := Lib.hid (HP0.out.call hb)
  clear q0 q1 q2 q3 q4 q5 q6 q7 q8 q9 q10 q11 q12 q13 hb
  cases hT : taskB ((x0, x1), x2, x3, x4, x5, x6, (x7, x8), x9, x10, x11, x12, M) with
  | false =>
    have HE := Lib.hid (bytesT_no hT)
    clear hT
    go_wp2
    go_ret
    exact ⟨by rw [HE.out]; rfl, HB1.out⟩
  | true =>
    have HT := Lib.hid (taskB_iff.1 hT)
    have HE := Lib.hid (show bytesT ((x0, x1), x2, x3, x4, x5, x6, (x7, x8), x9, x10, x11, x12, M) = preT x0 x1 x2 x3 x4 x5 x6 x7 x8 x9 x10 x11 x12 M ++ catL M from bytesT_yes hT)
    clear hT
    obtain ⟨r0, r1, r2, r4, r5, r6, r7, r8, r9, r10, r11, r12, rM, rO, rN⟩ := taskR_small HT.out
    have r13 : (0 : Int) ≤ (M.length : Int) ∧ (M.length : Int) ≤ 2000000 := ⟨by omega, by omega⟩
    have HRN := Lib.hid rN
    obtain ⟨b0, g0⟩ : ∃ b, PutM.encB x0 = b := ⟨_, rfl⟩
    have s0 : b0.size ≤ 10 := by rw [← g0]; exact enc10 r0
    have G0 := Lib.hid g0
    obtain ⟨b1, g1⟩ : ∃ b, PutM.encB x1 = b := ⟨_, rfl⟩
    have s1 : b1.size ≤ 10 := by rw [← g1]; exact enc10 r1
    have G1 := Lib.hid g1
    obtain ⟨b2, g2⟩ : ∃ b, PutM.encB x2 = b := ⟨_, rfl⟩
    have s2 : b2.size ≤ 10 := by rw [← g2]; exact enc10 r2
    have G2 := Lib.hid g2
    obtain ⟨b3, g3⟩ : ∃ b, JoinC.putT x3 = b := ⟨_, rfl⟩
    have s3 : b3.size ≤ 30 := by rw [← g3]; exact putT30 rO
    have G3 := Lib.hid g3
    obtain ⟨b4, g4⟩ : ∃ b, PutM.encB x4 = b := ⟨_, rfl⟩
    have s4 : b4.size ≤ 10 := by rw [← g4]; exact enc10 r4
    have G4 := Lib.hid g4
    obtain ⟨b5, g5⟩ : ∃ b, PutM.encB x5 = b := ⟨_, rfl⟩
    have s5 : b5.size ≤ 10 := by rw [← g5]; exact enc10 r5
    have G5 := Lib.hid g5
    obtain ⟨b6, g6⟩ : ∃ b, PutM.encB x6 = b := ⟨_, rfl⟩
    have s6 : b6.size ≤ 10 := by rw [← g6]; exact enc10 r6
    have G6 := Lib.hid g6
    obtain ⟨b7, g7⟩ : ∃ b, PutM.encB x7 = b := ⟨_, rfl⟩
    have s7 : b7.size ≤ 10 := by rw [← g7]; exact enc10 r7
    have G7 := Lib.hid g7
    obtain ⟨b8, g8⟩ : ∃ b, PutM.encB x8 = b := ⟨_, rfl⟩
    have s8 : b8.size ≤ 10 := by rw [← g8]; exact enc10 r8
    have G8 := Lib.hid g8
    obtain ⟨b9, g9⟩ : ∃ b, PutM.encB x9 = b := ⟨_, rfl⟩
    have s9 : b9.size ≤ 10 := by rw [← g9]; exact enc10 r9
    have G9 := Lib.hid g9
    obtain ⟨b10, g10⟩ : ∃ b, PutM.encB x10 = b := ⟨_, rfl⟩
    have s10 : b10.size ≤ 10 := by rw [← g10]; exact enc10 r10
    have G10 := Lib.hid g10
    obtain ⟨b11, g11⟩ : ∃ b, PutM.encB x11 = b := ⟨_, rfl⟩
    have s11 : b11.size ≤ 10 := by rw [← g11]; exact enc10 r11
    have G11 := Lib.hid g11
    obtain ⟨b12, g12⟩ : ∃ b, PutM.encB x12 = b := ⟨_, rfl⟩
    have s12 : b12.size ≤ 10 := by rw [← g12]; exact enc10 r12
    have G12 := Lib.hid g12
    obtain ⟨b13, g13⟩ : ∃ b, PutM.encB (M.length : Int) = b := ⟨_, rfl⟩
    have s13 : b13.size ≤ 10 := by rw [← g13]; exact enc10 r13
    have G13 := Lib.hid g13
    have HPRE := Lib.hid (show preT x0 x1 x2 x3 x4 x5 x6 x7 x8 x9 x10 x11 x12 M = (((((((((((((b0 ++ b1) ++ b2) ++ b3) ++ b4) ++ b5) ++ b6) ++ b7) ++ b8) ++ b9) ++ b10) ++ b11) ++ b12) ++ b13) from by unfold preT; rw [g0, g1, g2, g3, g4, g5, g6, g7, g8, g9, g10, g11, g12, g13])
    clear rN g0 g1 g2 g3 g4 g5 g6 g7 g8 g9 g10 g11 g12 g13
    have R0 := Lib.hid (r64 r0)
    have R1 := Lib.hid (r64 r1)
    have R2 := Lib.hid (r64 r2)
    have R4 := Lib.hid (r64 r4)
    have R5 := Lib.hid (r64 r5)
    have R6 := Lib.hid (r64 r6)
    have R7 := Lib.hid (r64 r7)
    have R8 := Lib.hid (r64 r8)
    have R9 := Lib.hid (r64 r9)
    have R10 := Lib.hid (r64 r10)
    have R11 := Lib.hid (r64 r11)
    have R12 := Lib.hid (r64 r12)
    have R13 := Lib.hid (r64 r13)
    clear rO r0 r1 r2 r4 r5 r6 r7 r8 r9 r10 r11 r12 r13
    have z0 := s0
    have z1 : (b0 ++ b1).size ≤ 20 := by rw [ByteArray.size_append]; omega
    have hadd1 := fun w : World => run_string_add_sum (P := Try.prog) w b0 b1 (by omega)
    have z2 : ((b0 ++ b1) ++ b2).size ≤ 30 := by rw [ByteArray.size_append]; omega
    have hadd2 := fun w : World => run_string_add_sum (P := Try.prog) w (b0 ++ b1) b2 (by omega)
    have z3 : (((b0 ++ b1) ++ b2) ++ b3).size ≤ 60 := by rw [ByteArray.size_append]; omega
    have hadd3 := fun w : World => run_string_add_sum (P := Try.prog) w ((b0 ++ b1) ++ b2) b3 (by omega)
    have z4 : ((((b0 ++ b1) ++ b2) ++ b3) ++ b4).size ≤ 70 := by rw [ByteArray.size_append]; omega
    have hadd4 := fun w : World => run_string_add_sum (P := Try.prog) w (((b0 ++ b1) ++ b2) ++ b3) b4 (by omega)
    have z5 : (((((b0 ++ b1) ++ b2) ++ b3) ++ b4) ++ b5).size ≤ 80 := by rw [ByteArray.size_append]; omega
    have hadd5 := fun w : World => run_string_add_sum (P := Try.prog) w ((((b0 ++ b1) ++ b2) ++ b3) ++ b4) b5 (by omega)
    have z6 : ((((((b0 ++ b1) ++ b2) ++ b3) ++ b4) ++ b5) ++ b6).size ≤ 90 := by rw [ByteArray.size_append]; omega
    have hadd6 := fun w : World => run_string_add_sum (P := Try.prog) w (((((b0 ++ b1) ++ b2) ++ b3) ++ b4) ++ b5) b6 (by omega)
    have z7 : (((((((b0 ++ b1) ++ b2) ++ b3) ++ b4) ++ b5) ++ b6) ++ b7).size ≤ 100 := by rw [ByteArray.size_append]; omega
    have hadd7 := fun w : World => run_string_add_sum (P := Try.prog) w ((((((b0 ++ b1) ++ b2) ++ b3) ++ b4) ++ b5) ++ b6) b7 (by omega)
    have z8 : ((((((((b0 ++ b1) ++ b2) ++ b3) ++ b4) ++ b5) ++ b6) ++ b7) ++ b8).size ≤ 110 := by rw [ByteArray.size_append]; omega
    have hadd8 := fun w : World => run_string_add_sum (P := Try.prog) w (((((((b0 ++ b1) ++ b2) ++ b3) ++ b4) ++ b5) ++ b6) ++ b7) b8 (by omega)
    have z9 : (((((((((b0 ++ b1) ++ b2) ++ b3) ++ b4) ++ b5) ++ b6) ++ b7) ++ b8) ++ b9).size ≤ 120 := by rw [ByteArray.size_append]; omega
    have hadd9 := fun w : World => run_string_add_sum (P := Try.prog) w ((((((((b0 ++ b1) ++ b2) ++ b3) ++ b4) ++ b5) ++ b6) ++ b7) ++ b8) b9 (by omega)
    have z10 : ((((((((((b0 ++ b1) ++ b2) ++ b3) ++ b4) ++ b5) ++ b6) ++ b7) ++ b8) ++ b9) ++ b10).size ≤ 130 := by rw [ByteArray.size_append]; omega
    have hadd10 := fun w : World => run_string_add_sum (P := Try.prog) w (((((((((b0 ++ b1) ++ b2) ++ b3) ++ b4) ++ b5) ++ b6) ++ b7) ++ b8) ++ b9) b10 (by omega)
    have z11 : (((((((((((b0 ++ b1) ++ b2) ++ b3) ++ b4) ++ b5) ++ b6) ++ b7) ++ b8) ++ b9) ++ b10) ++ b11).size ≤ 140 := by rw [ByteArray.size_append]; omega
    have hadd11 := fun w : World => run_string_add_sum (P := Try.prog) w ((((((((((b0 ++ b1) ++ b2) ++ b3) ++ b4) ++ b5) ++ b6) ++ b7) ++ b8) ++ b9) ++ b10) b11 (by omega)
    have z12 : ((((((((((((b0 ++ b1) ++ b2) ++ b3) ++ b4) ++ b5) ++ b6) ++ b7) ++ b8) ++ b9) ++ b10) ++ b11) ++ b12).size ≤ 150 := by rw [ByteArray.size_append]; omega
    have hadd12 := fun w : World => run_string_add_sum (P := Try.prog) w (((((((((((b0 ++ b1) ++ b2) ++ b3) ++ b4) ++ b5) ++ b6) ++ b7) ++ b8) ++ b9) ++ b10) ++ b11) b12 (by omega)
    have z13 : (((((((((((((b0 ++ b1) ++ b2) ++ b3) ++ b4) ++ b5) ++ b6) ++ b7) ++ b8) ++ b9) ++ b10) ++ b11) ++ b12) ++ b13).size ≤ 160 := by rw [ByteArray.size_append]; omega
    have hadd13 := fun w : World => run_string_add_sum (P := Try.prog) w ((((((((((((b0 ++ b1) ++ b2) ++ b3) ++ b4) ++ b5) ++ b6) ++ b7) ++ b8) ++ b9) ++ b10) ++ b11) ++ b12) b13 (by omega)
    go_wp2_with fail
    refine wp_region_held_drew (S := (fun V => Below (w1).heap.size (w1) V)) (by kernel_rfl) ((Below.refl _ _).drew) (fun hHeld => ?_)
    refine tk 0 hHeld ?_
    refine tk 1 hHeld ?_
    refine tk 2 hHeld ?_ (hy := fun w hSw => by (try dsimp only at hSw); have k0 := (hSw.cell (p := ⟨W.heap.size, 0, none⟩) HP1.out.lt).trans (HP1.out.at_ 0 rfl); clear hSw; go_simp; try with_reducible rfl)
    refine tk 4 hHeld ?_
    refine tk 5 hHeld ?_
    refine tk 6 hHeld ?_ (hy := fun w hSw => by (try dsimp only at hSw); have k0 := (hSw.cell (p := ⟨W.heap.size, 1, none⟩) HP1.out.lt).trans (HP1.out.at_ 1 rfl); clear hSw; go_simp; try with_reducible rfl)
    refine tk 9 hHeld ?_
    refine tk 10 hHeld ?_ (hy := fun w hSw => by (try dsimp only at hSw); have k0 := (hSw.cell (p := ⟨W.heap.size, 2, none⟩) HP1.out.lt).trans (HP1.out.at_ 2 rfl); clear hSw; go_simp; try with_reducible rfl)
    refine tk 13 hHeld ?_
    refine tk 14 hHeld ?_ (hy := fun w hSw => by (try dsimp only at hSw); have k0 := (hSw.cell (p := ⟨W.heap.size, 3, none⟩) HP1.out.lt).trans (HP1.out.at_ 3 rfl); clear hSw; go_simp; try with_reducible rfl)
    refine tk 17 hHeld ?_
    refine tk 18 hHeld ?_ (hy := fun w hSw => by (try dsimp only at hSw); have k0 := (hSw.cell (p := ⟨W.heap.size, 4, none⟩) HP1.out.lt).trans (HP1.out.at_ 4 rfl); clear hSw; go_simp; try with_reducible rfl)
    refine tk 21 hHeld ?_
    refine tk 22 hHeld ?_ (hy := fun w hSw => by (try dsimp only at hSw); have k0 := (hSw.cell (p := ⟨W.heap.size, 5, none⟩) HP1.out.lt).trans (HP1.out.at_ 5 rfl); clear hSw; go_simp; try with_reducible rfl)
    refine tk 25 hHeld ?_
    refine tk 26 hHeld ?_ (hy := fun w hSw => by (try dsimp only at hSw); have k0 := (hSw.cell (p := ⟨W.heap.size, 6, none⟩) HP1.out.lt).trans (HP1.out.at_ 6 rfl); clear hSw; go_simp; try with_reducible rfl)
    refine tk 29 hHeld ?_
    refine tk 30 hHeld ?_
    refine tk 31 hHeld ?_ (hy := fun w hSw => by (try dsimp only at hSw); have k0 := (hSw.cell (p := ⟨W.heap.size, 7, none⟩) HP1.out.lt).trans (HP1.out.at_ 7 rfl); clear hSw; go_simp; try with_reducible rfl)
    refine tk 34 hHeld ?_
    refine tk 35 hHeld ?_
    refine tk 36 hHeld ?_ (hy := fun w hSw => by (try dsimp only at hSw); have k0 := (hSw.cell (p := ⟨W.heap.size, 8, none⟩) HP1.out.lt).trans (HP1.out.at_ 8 rfl); clear hSw; go_simp; try with_reducible rfl)
    refine tk 39 hHeld ?_
    refine tk 40 hHeld ?_ (hy := fun w hSw => by (try dsimp only at hSw); have k0 := (hSw.cell (p := ⟨W.heap.size, 9, none⟩) HP1.out.lt).trans (HP1.out.at_ 9 rfl); clear hSw; go_simp; try with_reducible rfl)
    refine tk 43 hHeld ?_
    refine tk 44 hHeld ?_ (hy := fun w hSw => by (try dsimp only at hSw); have k0 := (hSw.cell (p := ⟨W.heap.size, 10, none⟩) HP1.out.lt).trans (HP1.out.at_ 10 rfl); clear hSw; go_simp; try with_reducible rfl)
    refine tk 47 hHeld ?_
    refine tk 48 hHeld ?_ (hy := fun w hSw => by (try dsimp only at hSw); have k0 := (hSw.cell (p := ⟨W.heap.size, 11, none⟩) HP1.out.lt).trans (HP1.out.at_ 11 rfl); clear hSw; go_simp; try with_reducible rfl)
    refine tk 51 hHeld ?_
    refine tk 52 hHeld ?_ (hy := fun w hSw => by (try dsimp only at hSw); have k0 := (hSw.cell (p := ⟨W.heap.size, 12, none⟩) HP1.out.lt).trans (HP1.out.at_ 12 rfl); clear hSw; go_simp; try with_reducible rfl)
    refine tk 55 hHeld ?_
    refine tk 56 hHeld ?_ (hy := fun w hSw => by (try dsimp only at hSw); have k0 := (hSw.cell (p := ⟨W.heap.size, 13, none⟩) HP1.out.lt).trans (HP1.out.at_ 13 rfl); clear hSw; go_simp; try with_reducible rfl)
    refine tk 57 hHeld ?_
    refine rd1 3 (fun K hK => ?_)
    go_simp
    go_at_call 98
    refine (putS_at x0 G0.out R0.out _).mono ?_
    rintro e v0 ⟨rfl, hb⟩
    refine hK.out _ _ (hHeld.trans (hb.mono hHeld.size)) (fun hHeld => ?_)
    clear hK K hb
    refine rd1 7 (fun K hK => ?_)
    go_simp
    go_at_call 98
    refine (putS_at x1 G1.out R1.out _).mono ?_
    rintro e v1 ⟨rfl, hb⟩
    refine hK.out _ _ (hHeld.trans (hb.mono hHeld.size)) (fun hHeld => ?_)
    clear hK K hb
    refine tk 8 hHeld ?_
    refine rd1 11 (fun K hK => ?_)
    go_simp
    go_at_call 98
    refine (putS_at x2 G2.out R2.out _).mono ?_
    rintro e v2 ⟨rfl, hb⟩
    refine hK.out _ _ (hHeld.trans (hb.mono hHeld.size)) (fun hHeld => ?_)
    clear hK K hb
    refine tk 12 hHeld ?_
    refine rd1 15 (fun K hK => ?_)
    go_simp
    go_at_call 99
    refine (textS_at x3 G3.out HX3.out _).mono ?_
    rintro e v3 ⟨rfl, hb⟩
    refine hK.out _ _ (hHeld.trans (hb.mono hHeld.size)) (fun hHeld => ?_)
    clear hK K hb
    refine tk 16 hHeld ?_
    refine rd1 19 (fun K hK => ?_)
    go_simp
    go_at_call 98
    refine (putS_at x4 G4.out R4.out _).mono ?_
    rintro e v4 ⟨rfl, hb⟩
    refine hK.out _ _ (hHeld.trans (hb.mono hHeld.size)) (fun hHeld => ?_)
    clear hK K hb
    refine tk 20 hHeld ?_
    refine rd1 23 (fun K hK => ?_)
    go_simp
    go_at_call 98
    refine (putS_at x5 G5.out R5.out _).mono ?_
    rintro e v5 ⟨rfl, hb⟩
    refine hK.out _ _ (hHeld.trans (hb.mono hHeld.size)) (fun hHeld => ?_)
    clear hK K hb
    refine tk 24 hHeld ?_
    refine rd1 27 (fun K hK => ?_)
    go_simp
    go_at_call 98
    refine (putS_at x6 G6.out R6.out _).mono ?_
    rintro e v6 ⟨rfl, hb⟩
    refine hK.out _ _ (hHeld.trans (hb.mono hHeld.size)) (fun hHeld => ?_)
    clear hK K hb
    refine tk 28 hHeld ?_
    refine rd1 32 (fun K hK => ?_)
    go_simp
    go_at_call 98
    refine (putS_at x7 G7.out R7.out _).mono ?_
    rintro e v7 ⟨rfl, hb⟩
    refine hK.out _ _ (hHeld.trans (hb.mono hHeld.size)) (fun hHeld => ?_)
    clear hK K hb
    refine tk 33 hHeld ?_
    refine rd1 37 (fun K hK => ?_)
    go_simp
    go_at_call 98
    refine (putS_at x8 G8.out R8.out _).mono ?_
    rintro e v8 ⟨rfl, hb⟩
    refine hK.out _ _ (hHeld.trans (hb.mono hHeld.size)) (fun hHeld => ?_)
    clear hK K hb
    refine tk 38 hHeld ?_
    refine rd1 41 (fun K hK => ?_)
    go_simp
    go_at_call 98
    refine (putS_at x9 G9.out R9.out _).mono ?_
    rintro e v9 ⟨rfl, hb⟩
    refine hK.out _ _ (hHeld.trans (hb.mono hHeld.size)) (fun hHeld => ?_)
    clear hK K hb
    refine tk 42 hHeld ?_
    refine rd1 45 (fun K hK => ?_)
    go_simp
    go_at_call 98
    refine (putS_at x10 G10.out R10.out _).mono ?_
    rintro e v10 ⟨rfl, hb⟩
    refine hK.out _ _ (hHeld.trans (hb.mono hHeld.size)) (fun hHeld => ?_)
    clear hK K hb
    refine tk 46 hHeld ?_
    refine rd1 49 (fun K hK => ?_)
    go_simp
    go_at_call 98
    refine (putS_at x11 G11.out R11.out _).mono ?_
    rintro e v11 ⟨rfl, hb⟩
    refine hK.out _ _ (hHeld.trans (hb.mono hHeld.size)) (fun hHeld => ?_)
    clear hK K hb
    refine tk 50 hHeld ?_
    refine rd1 53 (fun K hK => ?_)
    go_simp
    go_at_call 98
    refine (putS_at x12 G12.out R12.out _).mono ?_
    rintro e v12 ⟨rfl, hb⟩
    refine hK.out _ _ (hHeld.trans (hb.mono hHeld.size)) (fun hHeld => ?_)
    clear hK K hb
    refine tk 54 hHeld ?_
    refine rd1 58 (fun K hK => ?_)
    go_simp
    go_at_call 98
    refine (putS_at (M.length : Int) G13.out R13.out _).mono ?_
    rintro e v13 ⟨rfl, hb⟩
    refine hK.out _ _ (hHeld.trans (hb.mono hHeld.size)) (fun hHeld => ?_)
    clear hK K hb
    refine tk 59 hHeld ?_
    refine tk 60 hHeld ?_
    refine rd0 ?_
    have HF := Lib.hid hHeld
    clear hHeld
    have HB2 := Lib.hid (HB1.out.trans (HF.out.mono HB1.out.size))
    have HP2 := Lib.hid (HP1.out.call HF.out)
    clear HF hadd1 z1 hadd2 z2 hadd3 z3 hadd4 z4 hadd5 z5 hadd6 z6 hadd7 z7 hadd8 z8 hadd9 z9 hadd10 z10 hadd11 z11 hadd12 z12 s0 s1 s2 s3 s4 s5 s6 s7 s8 s9 s10 s11 s12 s13 hadd13 z0
    obtain ⟨P, hP⟩ : ∃ P, (((((((((((((b0 ++ b1) ++ b2) ++ b3) ++ b4) ++ b5) ++ b6) ++ b7) ++ b8) ++ b9) ++ b10) ++ b11) ++ b12) ++ b13) = P := ⟨_, rfl⟩
    rw [hP] at HPRE z13
    rw [hP]
    clear hP
    go_wp2_with fail
    go_loopw [4, 3] (fun i q wr => ∃ k : Nat, k ≤ M.length ∧ i = .int .i64 k ∧ q = .string (P ++ catL (M.take k)) ∧ Below v13.heap.size v13 wr) (fun i _ _ => M.length - (intOf i).toNat)
    case atStart => exact ⟨0, Nat.zero_le _, rfl, by rw [List.take_zero]; simp only [catL, ba_nil], Below.refl _ _⟩
    case round =>
      obtain ⟨k, hk, rfl, rfl, hB⟩ := hrel
      have HB := Lib.hid (HB2.out.trans (hB.mono HB2.out.size))
      have hszW := HB.out.size
      have HPR := Lib.hid (HP2.out.call hB)
      have q13 := HPR.out.at_ 13 rfl
      have HBl := Lib.hid hB
      by_cases hlt : k < M.length
      · obtain ⟨x, hx⟩ := el_some hlt
        have HST := Lib.hid (catL_step hx)
        have HRX := Lib.hid (r64 (HRN.out x (List.mem_of_getElem? hx)))
        have hcs : (catL (M.take k)).size ≤ 10 * M.length := Nat.le_trans (catL_size fun n hn => r64 (HRN.out n (List.mem_of_mem_take hn))) (by have := List.length_take_le' k M; omega)
        obtain ⟨g, o, us, rfl, hg, hu, hr⟩ := (HK.out.below I_ok HB.out).at_ hx
        obtain rfl : us = [_] := hr
        have hc0 : wr.cell? ⟨g, o + k, none⟩ = some (.int .i64 x) := by simpa [show I.size = 1 from rfl] using hu 0 _ rfl
        have hi0 : (0 : Int) ≤ (k : Int) := Int.natCast_nonneg _
        have hi1 : (k : Int) < (M.length : Int) := by omega
        obtain ⟨b, hb0⟩ : ∃ b, PutM.encB x = b := ⟨_, rfl⟩
        have hbs : b.size ≤ 10 := by rw [← hb0]; exact (PutM.encB_size HRX.out.1 HRX.out.2).2
        have HBb := Lib.hid hb0
        rw [hb0] at HST
        obtain ⟨C, hC⟩ : ∃ C, catL (M.take k) = C := ⟨_, rfl⟩
        rw [hC] at HST hcs
        rw [hC]
        have hPC : (P ++ C).size ≤ 1000 := by rw [ByteArray.size_append]; omega
        have haddL := fun w : World => run_string_add_sum (P := Try.prog) w (P ++ C) b (by omega)
        clear hB hx hu hb0 hC
        go_wp2_with fail
        refine (putS_at x HBb.out HRX.out _).mono ?_
        rintro e w9 ⟨rfl, hb⟩
        have HB9 := Lib.hid (HBl.out.trans (hb.mono HBl.out.size))
        clear hb hc0
        go_wp2
        go_roundw
        case rel => exact ⟨k + 1, by omega, by go_num, by rw [HST.out, ← ByteArray.append_assoc], HB9.out⟩
        case measure => simp [intOf]; omega
      · have hdl : decide ((k : Int) < (M.length : Int)) = false := decide_eq_false (by omega)
        obtain rfl : k = M.length := by omega
        have HL := Lib.hid (show P ++ catL (M.take M.length) = bytesT ((x0, x1), x2, x3, x4, x5, x6, (x7, x8), x9, x10, x11, x12, M) from by rw [HE.out, HPRE.out, List.take_length])
        clear hB
        rw [HL.out]
        go_wp2
        go_ret
        exact ⟨rfl, HB.out⟩
end Go.Proofs.Ytkghodbbgehcoaa.RepC
end
section
namespace Go.Proofs.Ytkghodbbgehcoaa.RepC
open Go.RowKit RowC ValC SpanC KeptC NameC
set_option linter.unusedVariables false
set_option linter.unusedSimpArgs false
theorem heldAlloc {V0 w : World} (h : Below V0.heap.size V0 w) (o : Obj) : Below w.heap.size w (w.alloc o) := (Below.refl _ _).alloc (Nat.le_refl _) o
theorem heldBlk {V0 w : World} (h : Below V0.heap.size V0 w) (t : TypeId) (cs : Array Value) : Blk (w.alloc (.cells cs t)) w.heap.size t cs := Blk.new w t cs
theorem putnums_n {L : List Int} {n : Nat} {a : Option Addr} {cap : Nat} {W : World} (hn : L.length = n) (hl : L.length ≤ 1000000) (hR : ∀ n ∈ L, i64R n) (h : RdSl I W W.heap.size L a cap) :
    Calls Try.prog 100 #[.slice a n cap] W fun e w' => e = .returned (.string (catL L)) ∧ Below W.heap.size W w' := by
  subst hn
  exact putnums_w hl hR h
theorem blkInts {W : World} {g : Nat} {t : TypeId} {cs : Array Value} {L : List Int} (h : Blk W g t cs) (hl9 : L.length ≤ 1000) (e : cs.toList = L.map fun n => .int .i64 n) : RdSl I W W.heap.size L (some ⟨g, 0, none⟩) L.length := by
  have hl : cs.toList.length = L.length := by rw [e, List.length_map]
  refine ⟨Nat.le_refl _, ?_, fun _ => ⟨g, 0, rfl, h.lt, fun i x hx => ⟨[.int .i64 x], ?_, rfl⟩⟩⟩
  · unfold maxLen; omega
  · intro j c hj
    have hj0 : j = 0 := by
      have := (List.getElem?_eq_some_iff.1 hj).1
      simpa using this
    subst hj0
    simp only [List.getElem?_cons_zero, Option.some.injEq] at hj
    subst hj
    have h2 : cs[i]? = some (.int .i64 x) := by
      rw [← Array.getElem?_toList, e, List.getElem?_map, hx]
      rfl
    have h3 := h.at_ i h2
    simpa [show I.size = 1 from rfl] using h3
set_option maxRecDepth 100000 in
set_option maxHeartbeats 8000000 in
theorem bytes_impl {x0 x1 x2 : Int} {x3 : ByteArray} {x4 x5 x6 x7 x8 x9 x10 x11 x12 : Int} {M : List Int} {ba : Option Addr} {bc : Nat} {W : World} (hx : R_Task.rd W W.heap.size ((x0, x1), x2, x3, x4, x5, x6, (x7, x8), x9, x10, x11, x12, M) [.int .i64 x0, .int .i64 x1, .int .i64 x2, .string x3, .int .i64 x4, .int .i64 x5, .int .i64 x6, .int .i64 x7, .int .i64 x8, .int .i64 x9, .int .i64 x10, .int .i64 x11, .int .i64 x12, .slice ba M.length bc]) :
    Calls Try.prog 47 #[.agg #[.int .i64 x0, .int .i64 x1, .int .i64 x2, .string x3, .int .i64 x4, .int .i64 x5, .int .i64 x6, .int .i64 x7, .int .i64 x8, .int .i64 x9, .int .i64 x10, .int .i64 x11, .int .i64 x12, .slice ba M.length bc]] W fun e w' => e = .returned (.string (bytesT ((x0, x1), x2, x3, x4, x5, x6, (x7, x8), x9, x10, x11, x12, M))) ∧ Below W.heap.size W w' := by
  have HX := Lib.hid hx
  obtain ⟨_, _, he, hk, b_x3⟩ := rd_Task hx
  cases he
  have HK := Lib.hid hk
  have HX3 := Lib.hid b_x3
  have hn : M.length ≤ 9223372036854775807 := by have h1 := hk.1; have h2 := hk.2.1; unfold maxLen at h2; omega
  clear hx hk b_x3
  obtain ⟨wo, hwo⟩ : ∃ w, w = W.alloc (.cells #[.int .i64 x0, .int .i64 x1, .int .i64 x2, .string x3, .int .i64 x4, .int .i64 x5, .int .i64 x6, .int .i64 x7, .int .i64 x8, .int .i64 x9, .int .i64 x10, .int .i64 x11, .int .i64 x12, .slice ba M.length bc] 43) := ⟨_, rfl⟩
  have HB0 := Lib.hid (show Below W.heap.size W wo from by rw [hwo]; exact (Below.refl _ _).alloc (Nat.le_refl _) _)
  have HP0 := Lib.hid (show Blk wo W.heap.size 43 #[.int .i64 x0, .int .i64 x1, .int .i64 x2, .string x3, .int .i64 x4, .int .i64 x5, .int .i64 x6, .int .i64 x7, .int .i64 x8, .int .i64 x9, .int .i64 x10, .int .i64 x11, .int .i64 x12, .slice ba M.length bc] from by rw [hwo]; exact Blk.new _ _ _)
  have HX0 := Lib.hid (R_Task_ok.rd_more (R_Task_ok.rd_below HX.out HB0.out) HB0.out.size)
  have q0 := HP0.out.at_ 0 rfl
  have q1 := HP0.out.at_ 1 rfl
  have q2 := HP0.out.at_ 2 rfl
  have q3 := HP0.out.at_ 3 rfl
  have q4 := HP0.out.at_ 4 rfl
  have q5 := HP0.out.at_ 5 rfl
  have q6 := HP0.out.at_ 6 rfl
  have q7 := HP0.out.at_ 7 rfl
  have q8 := HP0.out.at_ 8 rfl
  have q9 := HP0.out.at_ 9 rfl
  have q10 := HP0.out.at_ 10 rfl
  have q11 := HP0.out.at_ 11 rfl
  have q12 := HP0.out.at_ 12 rfl
  have q13 := HP0.out.at_ 13 rfl
  go_enter Try.func47, Try.ntmps47
  go_upto_region 1 with fail
  rw [← hwo]
  clear hwo
  go_wp2_with fail
  refine (taskI_w HX0.out).mono ?_
  rintro e w1 ⟨rfl, hb⟩
  have HB1 := Lib.hid (HB0.out.trans (hb.mono HB0.out.size))
  have HP1 := Lib.hid (HP0.out.call hb)
  have HK1 := Lib.hid ((HK.out.below I_ok HB1.out).more I_ok HB1.out.size)
  clear q0 q1 q2 q3 q4 q5 q6 q7 q8 q9 q10 q11 q12 q13 hb
  cases hT : taskB ((x0, x1), x2, x3, x4, x5, x6, (x7, x8), x9, x10, x11, x12, M) with
  | false =>
    have HE := Lib.hid (bytesT_no hT)
    clear hT
    go_wp2
    go_ret
    exact ⟨by rw [HE.out]; rfl, HB1.out⟩
  | true =>
    have HT := Lib.hid (taskB_iff.1 hT)
    have HE := Lib.hid (show bytesT ((x0, x1), x2, x3, x4, x5, x6, (x7, x8), x9, x10, x11, x12, M) = preT x0 x1 x2 x3 x4 x5 x6 x7 x8 x9 x10 x11 x12 M ++ catL M from bytesT_yes hT)
    clear hT
    obtain ⟨r0, r1, r2, r4, r5, r6, r7, r8, r9, r10, r11, r12, rM, rO, rN⟩ := taskR_small HT.out
    have r13 : (0 : Int) ≤ (M.length : Int) ∧ (M.length : Int) ≤ 2000000 := ⟨by omega, by omega⟩
    have HR1 := Lib.hid (show ∀ n ∈ [x0, x1, x2], i64R n from by intro n hn; simp only [List.mem_cons, List.not_mem_nil, or_false] at hn; rcases hn with rfl | rfl | rfl <;> apply r64 <;> assumption)
    have HR2 := Lib.hid (show ∀ n ∈ [x4, x5, x6, x7, x8, x9, x10, x11, x12, (M.length : Int)], i64R n from by intro n hn; simp only [List.mem_cons, List.not_mem_nil, or_false] at hn; rcases hn with rfl | rfl | rfl | rfl | rfl | rfl | rfl | rfl | rfl | rfl <;> apply r64 <;> assumption)
    have HR3 := Lib.hid (show ∀ n ∈ M, i64R n from fun n hn => r64 (rN n hn))
    obtain ⟨c1, g1⟩ : ∃ b, catL [x0, x1, x2] = b := ⟨_, rfl⟩
    obtain ⟨b3, g3⟩ : ∃ b, JoinC.putT x3 = b := ⟨_, rfl⟩
    obtain ⟨c2, g2⟩ : ∃ b, catL [x4, x5, x6, x7, x8, x9, x10, x11, x12, (M.length : Int)] = b := ⟨_, rfl⟩
    obtain ⟨c3, g4⟩ : ∃ b, catL M = b := ⟨_, rfl⟩
    have s1 : c1.size ≤ 30 := by rw [← g1]; exact catL_size HR1.out
    have s2 : c2.size ≤ 100 := by rw [← g2]; exact catL_size HR2.out
    have s3 : b3.size ≤ 30 := by rw [← g3]; exact putT30 rO
    have s4 : c3.size ≤ 60 := by rw [← g4]; exact Nat.le_trans (catL_size HR3.out) (by omega)
    have HE2 := Lib.hid (show bytesT ((x0, x1), x2, x3, x4, x5, x6, (x7, x8), x9, x10, x11, x12, M) = ((c1 ++ b3) ++ c2) ++ c3 from by rw [HE.out, ← g1, ← g2, ← g3, ← g4]; unfold preT; simp only [catL, ba_nil, ByteArray.append_assoc])
    have HC1 := Lib.hid g1
    have HC2 := Lib.hid g2
    have HC3 := Lib.hid g4
    have G3 := Lib.hid g3
    clear g1 g2 g3 g4 rN rO r0 r1 r2 r4 r5 r6 r7 r8 r9 r10 r11 r12 r13
    have z1 : (c1 ++ b3).size ≤ 60 := by rw [ByteArray.size_append]; omega
    have z2 : ((c1 ++ b3) ++ c2).size ≤ 160 := by rw [ByteArray.size_append]; omega
    have hadd1 := fun w : World => run_string_add_sum (P := Try.prog) w c1 b3 (by omega)
    have hadd2 := fun w : World => run_string_add_sum (P := Try.prog) w (c1 ++ b3) c2 (by omega)
    have hadd3 := fun w : World => run_string_add_sum (P := Try.prog) w ((c1 ++ b3) ++ c2) c3 (by omega)
    clear s1 s2 s3 s4 z1 z2
    go_wp2_with fail
    refine wp_region_held_drew (S := (fun V => Below w1.heap.size w1 V)) (by kernel_rfl) ((Below.refl _ _).drew) (fun hHeld => ?_)
    refine tk 0 hHeld ?_
    refine tk 1 hHeld ?_
    refine tk 2 hHeld ?_ (hy := fun w hSw => by (try dsimp only at hSw); have k0 := (hSw.cell (p := ⟨W.heap.size, 0, none⟩) HP1.out.lt).trans (HP1.out.at_ 0 rfl); clear hSw; go_simp; try with_reducible rfl)
    refine tk 3 hHeld ?_
    refine tk 4 hHeld ?_
    refine tk 5 hHeld ?_ (hy := fun w hSw => by (try dsimp only at hSw); have k0 := (hSw.cell (p := ⟨W.heap.size, 1, none⟩) HP1.out.lt).trans (HP1.out.at_ 1 rfl); clear hSw; go_simp; try with_reducible rfl)
    refine tk 6 hHeld ?_
    refine tk 7 hHeld ?_ (hy := fun w hSw => by (try dsimp only at hSw); have k0 := (hSw.cell (p := ⟨W.heap.size, 2, none⟩) HP1.out.lt).trans (HP1.out.at_ 2 rfl); clear hSw; go_simp; try with_reducible rfl)
    refine tk 10 hHeld ?_
    refine tk 11 hHeld ?_ (hy := fun w hSw => by (try dsimp only at hSw); have k0 := (hSw.cell (p := ⟨W.heap.size, 3, none⟩) HP1.out.lt).trans (HP1.out.at_ 3 rfl); clear hSw; go_simp; try with_reducible rfl)
    refine tk 14 hHeld ?_
    refine tk 15 hHeld ?_ (hy := fun w hSw => by (try dsimp only at hSw); have k0 := (hSw.cell (p := ⟨W.heap.size, 4, none⟩) HP1.out.lt).trans (HP1.out.at_ 4 rfl); clear hSw; go_simp; try with_reducible rfl)
    refine tk 16 hHeld ?_
    refine tk 17 hHeld ?_ (hy := fun w hSw => by (try dsimp only at hSw); have k0 := (hSw.cell (p := ⟨W.heap.size, 5, none⟩) HP1.out.lt).trans (HP1.out.at_ 5 rfl); clear hSw; go_simp; try with_reducible rfl)
    refine tk 18 hHeld ?_
    refine tk 19 hHeld ?_ (hy := fun w hSw => by (try dsimp only at hSw); have k0 := (hSw.cell (p := ⟨W.heap.size, 6, none⟩) HP1.out.lt).trans (HP1.out.at_ 6 rfl); clear hSw; go_simp; try with_reducible rfl)
    refine tk 20 hHeld ?_
    refine tk 21 hHeld ?_
    refine tk 22 hHeld ?_ (hy := fun w hSw => by (try dsimp only at hSw); have k0 := (hSw.cell (p := ⟨W.heap.size, 7, none⟩) HP1.out.lt).trans (HP1.out.at_ 7 rfl); clear hSw; go_simp; try with_reducible rfl)
    refine tk 23 hHeld ?_
    refine tk 24 hHeld ?_
    refine tk 25 hHeld ?_ (hy := fun w hSw => by (try dsimp only at hSw); have k0 := (hSw.cell (p := ⟨W.heap.size, 8, none⟩) HP1.out.lt).trans (HP1.out.at_ 8 rfl); clear hSw; go_simp; try with_reducible rfl)
    refine tk 26 hHeld ?_
    refine tk 27 hHeld ?_ (hy := fun w hSw => by (try dsimp only at hSw); have k0 := (hSw.cell (p := ⟨W.heap.size, 9, none⟩) HP1.out.lt).trans (HP1.out.at_ 9 rfl); clear hSw; go_simp; try with_reducible rfl)
    refine tk 28 hHeld ?_
    refine tk 29 hHeld ?_ (hy := fun w hSw => by (try dsimp only at hSw); have k0 := (hSw.cell (p := ⟨W.heap.size, 10, none⟩) HP1.out.lt).trans (HP1.out.at_ 10 rfl); clear hSw; go_simp; try with_reducible rfl)
    refine tk 30 hHeld ?_
    refine tk 31 hHeld ?_ (hy := fun w hSw => by (try dsimp only at hSw); have k0 := (hSw.cell (p := ⟨W.heap.size, 11, none⟩) HP1.out.lt).trans (HP1.out.at_ 11 rfl); clear hSw; go_simp; try with_reducible rfl)
    refine tk 32 hHeld ?_
    refine tk 33 hHeld ?_ (hy := fun w hSw => by (try dsimp only at hSw); have k0 := (hSw.cell (p := ⟨W.heap.size, 12, none⟩) HP1.out.lt).trans (HP1.out.at_ 12 rfl); clear hSw; go_simp; try with_reducible rfl)
    refine tk 34 hHeld ?_
    refine tk 35 hHeld ?_ (hy := fun w hSw => by (try dsimp only at hSw); have k0 := (hSw.cell (p := ⟨W.heap.size, 13, none⟩) HP1.out.lt).trans (HP1.out.at_ 13 rfl); clear hSw; go_simp; try with_reducible rfl)
    refine tk 36 hHeld ?_
    refine tk 40 hHeld ?_
    refine tk 41 hHeld ?_ (hy := fun w hSw => by (try dsimp only at hSw); have k0 := (hSw.cell (p := ⟨W.heap.size, 13, none⟩) HP1.out.lt).trans (HP1.out.at_ 13 rfl); clear hSw; go_simp; try with_reducible rfl)
    refine rd2 8 37 (fun K hK => ?_) (fun K hK => ?_)
    · skip
      go_simp
      have hb := heldAlloc hHeld (.cells #[.int .i64 x0, .int .i64 x1, .int .i64 x2] 2)
      try have KB := Lib.hid (KB.out.call hb)
      have KA := Lib.hid (heldBlk hHeld 2 #[.int .i64 x0, .int .i64 x1, .int .i64 x2])
      have ka := KA.out
      try simp only [World.size_drew, World.size_alloc] at ka
      have KA := Lib.hid ka
      clear ka
      refine hK.out _ _ (hHeld.trans (hb.mono hHeld.size)) (fun hHeld => ?_)
      clear hb
      clear hK K
      refine rd2 9 37 (fun K hK => ?_) (fun K hK => ?_)
      · skip
        go_simp
        go_at_call 100
        refine (putnums_n (L := [x0, x1, x2]) rfl (by simp) HR1.out (blkInts KA.out (by simp) rfl)).mono ?_
        rintro e v1 ⟨rfl, hb⟩
        rw [HC1.out]
        try have KB := Lib.hid (KB.out.call hb)
        refine hK.out _ _ (hHeld.trans (hb.mono hHeld.size)) (fun hHeld => ?_)
        clear hb
        clear hK K
        refine rd2 12 37 (fun K hK => ?_) (fun K hK => ?_)
        · skip
          go_simp
          go_at_call 101
          refine (textI_at x3 G3.out HX3.out _).mono ?_
          rintro e v2 ⟨rfl, hb⟩
          try have KB := Lib.hid (KB.out.call hb)
          refine hK.out _ _ (hHeld.trans (hb.mono hHeld.size)) (fun hHeld => ?_)
          clear hb
          clear hK K
          refine tk 13 hHeld ?_
          refine rd1 37 (fun K hK => ?_)
          go_simp
          have hb := heldAlloc hHeld (.cells #[.int .i64 x4, .int .i64 x5, .int .i64 x6, .int .i64 x7, .int .i64 x8, .int .i64 x9, .int .i64 x10, .int .i64 x11, .int .i64 x12, .int .i64 (M.length : Int)] 2)
          try have KA := Lib.hid (KA.out.call hb)
          have KB := Lib.hid (heldBlk hHeld 2 #[.int .i64 x4, .int .i64 x5, .int .i64 x6, .int .i64 x7, .int .i64 x8, .int .i64 x9, .int .i64 x10, .int .i64 x11, .int .i64 x12, .int .i64 (M.length : Int)])
          have kb := KB.out
          try simp only [World.size_drew, World.size_alloc] at kb
          have KB := Lib.hid kb
          clear kb
          refine hK.out _ _ (hHeld.trans (hb.mono hHeld.size)) (fun hHeld => ?_)
          clear hb
          clear hK K
          refine rd1 38 (fun K hK => ?_)
          go_simp
          go_at_call 100
          refine (putnums_n (L := [x4, x5, x6, x7, x8, x9, x10, x11, x12, (M.length : Int)]) rfl (by simp) HR2.out (blkInts KB.out (by simp) rfl)).mono ?_
          rintro e v3 ⟨rfl, hb⟩
          rw [HC2.out]
          refine hK.out _ _ (hHeld.trans (hb.mono hHeld.size)) (fun hHeld => ?_)
          clear hb
          clear hK K
          refine tk 39 hHeld ?_
          refine rd1 42 (fun K hK => ?_)
          go_simp
          go_at_call 100
          refine (putnums_n (L := M) rfl (by omega) HR3.out ((HK1.out.below I_ok hHeld).more I_ok hHeld.size)).mono ?_
          rintro e v4 ⟨rfl, hb⟩
          rw [HC3.out]
          refine hK.out _ _ (hHeld.trans (hb.mono hHeld.size)) (fun hHeld => ?_)
          clear hb
          clear hK K
          refine tk 43 hHeld ?_
          refine tk 44 hHeld ?_
          refine rd0 ?_
          have HB2 := Lib.hid (HB1.out.trans (hHeld.mono HB1.out.size))
          clear hHeld
          skip
          go_wp2
          go_ret
          exact ⟨by rw [HE2.out]; rfl, HB2.out⟩
        · skip
          go_simp
          have hb := heldAlloc hHeld (.cells #[.int .i64 x4, .int .i64 x5, .int .i64 x6, .int .i64 x7, .int .i64 x8, .int .i64 x9, .int .i64 x10, .int .i64 x11, .int .i64 x12, .int .i64 (M.length : Int)] 2)
          try have KA := Lib.hid (KA.out.call hb)
          have KB := Lib.hid (heldBlk hHeld 2 #[.int .i64 x4, .int .i64 x5, .int .i64 x6, .int .i64 x7, .int .i64 x8, .int .i64 x9, .int .i64 x10, .int .i64 x11, .int .i64 x12, .int .i64 (M.length : Int)])
          have kb := KB.out
          try simp only [World.size_drew, World.size_alloc] at kb
          have KB := Lib.hid kb
          clear kb
          refine hK.out _ _ (hHeld.trans (hb.mono hHeld.size)) (fun hHeld => ?_)
          clear hb
          clear hK K
          refine rd1 12 (fun K hK => ?_)
          go_simp
          go_at_call 101
          refine (textI_at x3 G3.out HX3.out _).mono ?_
          rintro e v2 ⟨rfl, hb⟩
          try have KB := Lib.hid (KB.out.call hb)
          refine hK.out _ _ (hHeld.trans (hb.mono hHeld.size)) (fun hHeld => ?_)
          clear hb
          clear hK K
          refine tk 13 hHeld ?_
          refine rd1 38 (fun K hK => ?_)
          go_simp
          go_at_call 100
          refine (putnums_n (L := [x4, x5, x6, x7, x8, x9, x10, x11, x12, (M.length : Int)]) rfl (by simp) HR2.out (blkInts KB.out (by simp) rfl)).mono ?_
          rintro e v3 ⟨rfl, hb⟩
          rw [HC2.out]
          refine hK.out _ _ (hHeld.trans (hb.mono hHeld.size)) (fun hHeld => ?_)
          clear hb
          clear hK K
          refine tk 39 hHeld ?_
          refine rd1 42 (fun K hK => ?_)
          go_simp
          go_at_call 100
          refine (putnums_n (L := M) rfl (by omega) HR3.out ((HK1.out.below I_ok hHeld).more I_ok hHeld.size)).mono ?_
          rintro e v4 ⟨rfl, hb⟩
          rw [HC3.out]
          refine hK.out _ _ (hHeld.trans (hb.mono hHeld.size)) (fun hHeld => ?_)
          clear hb
          clear hK K
          refine tk 43 hHeld ?_
          refine tk 44 hHeld ?_
          refine rd0 ?_
          have HB2 := Lib.hid (HB1.out.trans (hHeld.mono HB1.out.size))
          clear hHeld
          skip
          go_wp2
          go_ret
          exact ⟨by rw [HE2.out]; rfl, HB2.out⟩
      · skip
        go_simp
        have hb := heldAlloc hHeld (.cells #[.int .i64 x4, .int .i64 x5, .int .i64 x6, .int .i64 x7, .int .i64 x8, .int .i64 x9, .int .i64 x10, .int .i64 x11, .int .i64 x12, .int .i64 (M.length : Int)] 2)
        try have KA := Lib.hid (KA.out.call hb)
        have KB := Lib.hid (heldBlk hHeld 2 #[.int .i64 x4, .int .i64 x5, .int .i64 x6, .int .i64 x7, .int .i64 x8, .int .i64 x9, .int .i64 x10, .int .i64 x11, .int .i64 x12, .int .i64 (M.length : Int)])
        have kb := KB.out
        try simp only [World.size_drew, World.size_alloc] at kb
        have KB := Lib.hid kb
        clear kb
        refine hK.out _ _ (hHeld.trans (hb.mono hHeld.size)) (fun hHeld => ?_)
        clear hb
        clear hK K
        refine rd1 9 (fun K hK => ?_)
        go_simp
        go_at_call 100
        refine (putnums_n (L := [x0, x1, x2]) rfl (by simp) HR1.out (blkInts KA.out (by simp) rfl)).mono ?_
        rintro e v1 ⟨rfl, hb⟩
        rw [HC1.out]
        try have KB := Lib.hid (KB.out.call hb)
        refine hK.out _ _ (hHeld.trans (hb.mono hHeld.size)) (fun hHeld => ?_)
        clear hb
        clear hK K
        refine rd1 12 (fun K hK => ?_)
        go_simp
        go_at_call 101
        refine (textI_at x3 G3.out HX3.out _).mono ?_
        rintro e v2 ⟨rfl, hb⟩
        try have KB := Lib.hid (KB.out.call hb)
        refine hK.out _ _ (hHeld.trans (hb.mono hHeld.size)) (fun hHeld => ?_)
        clear hb
        clear hK K
        refine tk 13 hHeld ?_
        refine rd1 38 (fun K hK => ?_)
        go_simp
        go_at_call 100
        refine (putnums_n (L := [x4, x5, x6, x7, x8, x9, x10, x11, x12, (M.length : Int)]) rfl (by simp) HR2.out (blkInts KB.out (by simp) rfl)).mono ?_
        rintro e v3 ⟨rfl, hb⟩
        rw [HC2.out]
        refine hK.out _ _ (hHeld.trans (hb.mono hHeld.size)) (fun hHeld => ?_)
        clear hb
        clear hK K
        refine tk 39 hHeld ?_
        refine rd1 42 (fun K hK => ?_)
        go_simp
        go_at_call 100
        refine (putnums_n (L := M) rfl (by omega) HR3.out ((HK1.out.below I_ok hHeld).more I_ok hHeld.size)).mono ?_
        rintro e v4 ⟨rfl, hb⟩
        rw [HC3.out]
        refine hK.out _ _ (hHeld.trans (hb.mono hHeld.size)) (fun hHeld => ?_)
        clear hb
        clear hK K
        refine tk 43 hHeld ?_
        refine tk 44 hHeld ?_
        refine rd0 ?_
        have HB2 := Lib.hid (HB1.out.trans (hHeld.mono HB1.out.size))
        clear hHeld
        skip
        go_wp2
        go_ret
        exact ⟨by rw [HE2.out]; rfl, HB2.out⟩
    · skip
      go_simp
      have hb := heldAlloc hHeld (.cells #[.int .i64 x4, .int .i64 x5, .int .i64 x6, .int .i64 x7, .int .i64 x8, .int .i64 x9, .int .i64 x10, .int .i64 x11, .int .i64 x12, .int .i64 (M.length : Int)] 2)
      try have KA := Lib.hid (KA.out.call hb)
      have KB := Lib.hid (heldBlk hHeld 2 #[.int .i64 x4, .int .i64 x5, .int .i64 x6, .int .i64 x7, .int .i64 x8, .int .i64 x9, .int .i64 x10, .int .i64 x11, .int .i64 x12, .int .i64 (M.length : Int)])
      have kb := KB.out
      try simp only [World.size_drew, World.size_alloc] at kb
      have KB := Lib.hid kb
      clear kb
      refine hK.out _ _ (hHeld.trans (hb.mono hHeld.size)) (fun hHeld => ?_)
      clear hb
      clear hK K
      refine rd1 8 (fun K hK => ?_)
      go_simp
      have hb := heldAlloc hHeld (.cells #[.int .i64 x0, .int .i64 x1, .int .i64 x2] 2)
      try have KB := Lib.hid (KB.out.call hb)
      have KA := Lib.hid (heldBlk hHeld 2 #[.int .i64 x0, .int .i64 x1, .int .i64 x2])
      have ka := KA.out
      try simp only [World.size_drew, World.size_alloc] at ka
      have KA := Lib.hid ka
      clear ka
      refine hK.out _ _ (hHeld.trans (hb.mono hHeld.size)) (fun hHeld => ?_)
      clear hb
      clear hK K
      refine rd1 9 (fun K hK => ?_)
      go_simp
      go_at_call 100
      refine (putnums_n (L := [x0, x1, x2]) rfl (by simp) HR1.out (blkInts KA.out (by simp) rfl)).mono ?_
      rintro e v1 ⟨rfl, hb⟩
      rw [HC1.out]
      try have KB := Lib.hid (KB.out.call hb)
      refine hK.out _ _ (hHeld.trans (hb.mono hHeld.size)) (fun hHeld => ?_)
      clear hb
      clear hK K
      refine rd1 12 (fun K hK => ?_)
      go_simp
      go_at_call 101
      refine (textI_at x3 G3.out HX3.out _).mono ?_
      rintro e v2 ⟨rfl, hb⟩
      try have KB := Lib.hid (KB.out.call hb)
      refine hK.out _ _ (hHeld.trans (hb.mono hHeld.size)) (fun hHeld => ?_)
      clear hb
      clear hK K
      refine tk 13 hHeld ?_
      refine rd1 38 (fun K hK => ?_)
      go_simp
      go_at_call 100
      refine (putnums_n (L := [x4, x5, x6, x7, x8, x9, x10, x11, x12, (M.length : Int)]) rfl (by simp) HR2.out (blkInts KB.out (by simp) rfl)).mono ?_
      rintro e v3 ⟨rfl, hb⟩
      rw [HC2.out]
      refine hK.out _ _ (hHeld.trans (hb.mono hHeld.size)) (fun hHeld => ?_)
      clear hb
      clear hK K
      refine tk 39 hHeld ?_
      refine rd1 42 (fun K hK => ?_)
      go_simp
      go_at_call 100
      refine (putnums_n (L := M) rfl (by omega) HR3.out ((HK1.out.below I_ok hHeld).more I_ok hHeld.size)).mono ?_
      rintro e v4 ⟨rfl, hb⟩
      rw [HC3.out]
      refine hK.out _ _ (hHeld.trans (hb.mono hHeld.size)) (fun hHeld => ?_)
      clear hb
      clear hK K
      refine tk 43 hHeld ?_
      refine tk 44 hHeld ?_
      refine rd0 ?_
      have HB2 := Lib.hid (HB1.out.trans (hHeld.mono HB1.out.size))
      clear hHeld
      skip
      go_wp2
      go_ret
      exact ⟨by rw [HE2.out]; rfl, HB2.out⟩
end Go.Proofs.Ytkghodbbgehcoaa.RepC
end
section
namespace Go.Proofs.Ytkghodbbgehcoaa.RepC
open Go.RowKit RowC ValC SpanC KeptC
set_option linter.unusedVariables false
set_option linter.unusedSimpArgs false
theorem gbytes_spec {x : D_Task} {cs : List Value} {W : World} (hx : R_Task.rd W W.heap.size x cs) : Calls Try.prog 46 #[.agg cs.toArray] W fun e w' => e = .returned (.string (bytesT x)) ∧ Below W.heap.size W w' := by
  obtain ⟨⟨x0, x1⟩, x2, x3, x4, x5, x6, ⟨x7, x8⟩, x9, x10, x11, x12, M⟩ := x
  have hx0 := hx
  obtain ⟨ba, bc, rfl, k2, b2⟩ := rd_Task hx
  exact bytes_spec hx0
theorem gbytes_impl {x : D_Task} {cs : List Value} {W : World} (hx : R_Task.rd W W.heap.size x cs) : Calls Try.prog 47 #[.agg cs.toArray] W fun e w' => e = .returned (.string (bytesT x)) ∧ Below W.heap.size W w' := by
  obtain ⟨⟨x0, x1⟩, x2, x3, x4, x5, x6, ⟨x7, x8⟩, x9, x10, x11, x12, M⟩ := x
  have hx0 := hx
  obtain ⟨ba, bc, rfl, k2, b2⟩ := rd_Task hx
  exact bytes_impl hx0
end Go.Proofs.Ytkghodbbgehcoaa.RepC
end
