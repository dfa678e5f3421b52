/- Of this claim's texts the part 15: Lift Opn JobO PlOpn CfM CfG CfO LabEq. -/
import Derived.Test.YtlgflddljhldhaaGreatRows
import Derived.ProofKit
import Derived.OpenShut
import Derived.Below
import Derived.Carry
import Derived.ChangeOld
import Derived.Lib.SmallJoins
import Derived.Deep.Slices
import Derived.Laws.StructEq
import Derived.WalkLawsBesides
import Derived.Test.YtlgflddljhldhaaGreatPN5
import Derived.Test.YtlgflddljhldhaaGreatPN10
import Derived.Test.YtlgflddljhldhaaGreatPN11
section
namespace Go.Proofs.YtlgflddljhldhaaGreat.LiftL
open Go.ChangeShapes Go.WideShapes Go.ChangeAt Go.RowKit Go.Joins
section
variable {H : Type} {enc : TypeId × Value → H} {P : Program}
def allRead (P : Program) (ts : List TypeId) : Bool := ts.all fun t => P.readableRec t && decide (t < P.types.size)
theorem trodAll_stays (hl : laidOutB P = true) {W W' : World} (hb : Below W.heap.size W W') : ∀ (ts : List TypeId) (vs : List Value) (ds : List (DataW H)) (ps : List MemPlace), allRead P ts = true →
    DataW.TrodAll enc P W 0 (fun _ => true) true ts vs ds ps → DataW.TrodAll enc P W' 0 (fun b => decide (b < W.heap.size)) true ts vs ds ps
  | [], vs, ds, ps, _, h => by
    obtain ⟨rfl, rfl, rfl⟩ := trodAll_nil h
    exact trodAll_mk0
  | t :: ts, vs, ds, ps, hr, h => by
    obtain ⟨v, vs', d, ds', p, q, rfl, rfl, rfl, h1, h2⟩ := trodAll_cons h
    have hr' : (P.readableRec t = true ∧ t < P.types.size) ∧ allRead P ts = true := by
      unfold allRead at hr
      simpa [List.all_cons, allRead] using hr
    have lt : ∀ x ∈ p, x.block < W.heap.size := by obtain ⟨m, hm⟩ := h1; exact DataW.trod_lt m _ _ _ hm
    exact trodAll_cons_mk (Below.trod hl hr'.1.1 hr'.1.2 h1 hb lt) (trodAll_stays hl hb ts vs' ds' q hr'.2 h2)
theorem var_stays {W W' : World} (hb : Below W.heap.size W W') {n : String} {g : Nat} {cs : Array Value} (hg : P.globalNamed n = some g) (h : W.var? P n = some cs) : W'.var? P n = some cs := by
  have hlt : g < W.heap.size := by
    simp only [World.var?, hg, Option.bind_some] at h
    cases hw : W.heap[g]? with
    | none => rw [hw] at h; simp at h
    | some o => exact (Array.getElem?_eq_some_iff.1 hw).1
  simp only [World.var?, hg, Option.bind_some] at h ⊢
  rw [hb.block g hlt]
  exact h
def varsRead (P : Program) (ns : List String) : Bool := ns.all fun n => match (P.globalNamed n).bind (fun g => (P.globals[g]?).map (·.type)) with | some t => P.readableRec t && decide (t < P.types.size) | none => false
theorem trodVars_stays (hl : laidOutB P = true) {W W' : World} (hb : Below W.heap.size W W') : ∀ (ns : List String) (gs : List (DataW H)) (ps : List MemPlace), varsRead P ns = true →
    DataW.TrodVars enc P W (fun _ => true) ns gs ps → DataW.TrodVars enc P W' (fun b => decide (b < W.heap.size)) ns gs ps
  | [], gs, ps, _, h => by
    obtain ⟨rfl, rfl⟩ := trodVars_none h
    exact rfl
  | n :: ns, [], ps, _, h => by cases h
  | n :: ns, d :: gs, ps, hr, h => by
    obtain ⟨g, t, cs, fuel, p, q, h1, h2, h3, h4, h5, rfl⟩ := h
    have hr' : (P.readableRec t = true ∧ t < P.types.size) ∧ varsRead P ns = true := by
      unfold varsRead at hr
      rw [List.all_cons, Bool.and_eq_true] at hr
      have h0 := hr.1
      rw [h1, Option.bind_some, h2] at h0
      simp only [Bool.and_eq_true, decide_eq_true_eq] at h0
      exact ⟨h0, hr.2⟩
    have lt : ∀ x ∈ p, x.block < W.heap.size := DataW.trod_lt fuel _ _ _ h4
    obtain ⟨fuel', h6⟩ := Below.trod hl hr'.1.1 hr'.1.2 (v := .agg cs) (d := d) (ps := p) ⟨fuel, h4⟩ hb lt
    exact ⟨g, t, cs, fuel', p, q, h1, h2, var_stays hb h1 h3, h6, trodVars_stays hl hb ns gs q hr'.2 h5, rfl⟩
theorem post_law {f : Func} {s : ChangeSpec} {W W' : World} {args : Array Value} {ds gs : List (DataW H)} {before : List MemPlace} {tb : TypeId} (hspec : s.fn H (ds ++ gs) = { results := [.lit (.bool true)], args := ds, vars := gs })
    (hl : laidOutB P = true) (hr : allRead P f.params.toList = true) (hv : varsRead P s.vars = true) (hres : f.resultTypes = #[tb]) (hbool : P.underlying tb = some .bool)
    (hW : DataW.Whole enc P f.params.toList s.vars false W args.toList ds gs before) (hb : Below W.heap.size W W') : s.post enc P f false true false false W args (.bool true) W' := by
  have hW' := hW
  obtain ⟨p, q, hA, hV, rfl, _, _⟩ := hW
  refine ⟨ds, gs, _, [], p, q, hW', ?_, ?_, ?_, hb.frame _, fun h => by cases h⟩
  · rw [hspec, hres]
    exact trodAll_mk1 (shut_bool hbool _)
  · rw [hspec]
    exact trodAll_stays hl hb _ _ _ _ hr hA
  · rw [hspec]
    exact trodVars_stays hl hb _ _ _ hv hV
end
end Go.Proofs.YtlgflddljhldhaaGreat.LiftL
end
section
namespace Go.Proofs.YtlgflddljhldhaaGreat.RepC
open Go.ChangeShapes Go.WideShapes Go.ChangeAt Go.RowKit Go.Joins Go.Deep RowC ValC
set_option linter.unusedVariables false
set_option maxRecDepth 100000
def Opn {α : Type} (E : Rp α) (t : TypeId) : Prop := ∀ {H : Type} (enc : TypeId × Value → H) (W : World) (fuel : Nat) (cs : List Value) (y : DataW H × List MemPlace), DataW.trod enc Tryz.prog W 0 (fun _ => true) true fuel t cs = some y → ∃ d, E.rd W W.heap.size d cs
theorem opn_int {t : TypeId} (ht : Tryz.prog.underlying t = some (.int .i64)) : Opn I t := fun enc W fuel cs y h => by
  obtain ⟨n, rfl, _, _⟩ := DataW.trod_int ht h
  exact ⟨n, rfl⟩
theorem add_addr (b o k : Nat) : (⟨b, o, none⟩ : Addr).add k = ⟨b, o + k, none⟩ := by
  unfold Addr.add; split
  · rename_i hz; rw [hz]; rfl
  · rfl
theorem opn_sl {α : Type} {E : Rp α} {t e : TypeId} (hE : Opn E e) (hp : 0 < E.size) (ht : Tryz.prog.underlying t = some (.slice e)) (hc : Tryz.prog.cellsOf e = E.size) : Opn (Sl E) t := fun enc W fuel cs y h => by
  rcases open_slice ht h with ⟨rfl, _⟩ | ⟨x, n, cap, m, k, D, Pl, rfl, _, hl, hm, hmm, _, hi⟩
  · exact ⟨[], none, 0, rfl, Nat.le_refl _, Nat.zero_le _, fun h => absurd h (Nat.lt_irrefl _)⟩
  · simp only [if_true] at hmm
    rw [hc] at hi
    have hone : ∀ i, i < n → ∃ d us, us.length = E.size ∧ (∀ j, j < E.size → W.cell? ((x.add (i * E.size)).add j) = us[j]?) ∧ E.rd W W.heap.size d us := fun i hin => by
      obtain ⟨us, h1, h2⟩ := hi i (by omega)
      obtain ⟨_, h3, h4⟩ := World.cells?_some h1
      obtain ⟨d, hd⟩ := hE enc W k us _ h2
      exact ⟨d, us, h3, h4, hd⟩
    by_cases hn : n = 0
    · subst hn
      exact ⟨[], some x, cap, rfl, hl, hm, fun h => absurd h (Nat.lt_irrefl _)⟩
    · obtain ⟨d0, us0, l0, c0, _⟩ := hone 0 (by omega)
      have e0 : (x.add (0 * E.size)).add 0 = x := by simp [Addr.add]
      have h0 := c0 0 hp
      rw [e0] at h0
      have hu : ∃ u, us0[0]? = some u := ⟨us0[0], List.getElem?_eq_getElem (by omega)⟩
      obtain ⟨u, hu⟩ := hu
      rw [hu] at h0
      have hsp : x.spot = none := by
        cases hs : x.spot with
        | none => rfl
        | some s => simp [World.cell?, hs] at h0; split at h0 <;> simp at h0
      obtain ⟨b, off, sp⟩ := x
      simp only at hsp
      subst hsp
      have hb := World.block_lt_of_cell? W ⟨b, off, none⟩ h0
      have hall : ∀ q, q ≤ n → ∃ L : List α, L.length = q ∧ ∀ i d, L[i]? = some d → ∃ us, CellsAt W b (off + i * E.size) us ∧ E.rd W W.heap.size d us := by
        intro q
        induction q with
        | zero => exact fun _ => ⟨[], rfl, fun i d hd => by simp at hd⟩
        | succ q ih =>
          intro hq
          obtain ⟨L, hL, hall⟩ := ih (by omega)
          obtain ⟨d, us, hus, hcs, hd⟩ := hone q (by omega)
          refine ⟨L ++ [d], by simp [hL], fun i z hz => ?_⟩
          by_cases hi : i < L.length
          · rw [List.getElem?_append_left hi] at hz
            exact hall i z hz
          · rw [List.getElem?_append_right (by omega)] at hz
            have hi2 : i = q := by
              have := (List.getElem?_eq_some_iff.1 hz).1
              simp at this
              omega
            subst hi2
            simp [hL] at hz
            subst hz
            refine ⟨us, fun j c hj => ?_, hd⟩
            have hj2 := (List.getElem?_eq_some_iff.1 hj).1
            have := hcs j (by omega)
            rw [add_addr, add_addr, hj] at this
            exact this
      obtain ⟨L, hL, hel⟩ := hall n (Nat.le_refl _)
      subst hL
      exact ⟨L, some ⟨b, off, none⟩, cap, rfl, hl, hm, fun _ => ⟨b, off, rfl, hb, hel⟩⟩
theorem fld {H : Type} {enc : TypeId × Value → H} {W : World} {n : Nat} {cs : List Value} {fs : Array Field} {xs : List (DataW H × List MemPlace)} (hf : ∀ (i : Nat) (f : Field), fs[i]? = some f → DataW.trod enc Tryz.prog W 0 (fun _ => true) true n f.type ((cs.drop f.offset).take (Tryz.prog.cellsOf f.type)) = xs[i]?)
    (i : Nat) (t o k : Nat) (h : fs[i]?.map (fun f => (f.type, f.offset)) = some (t, o)) (hc : Tryz.prog.cellsOf t = k) : DataW.trod enc Tryz.prog W 0 (fun _ => true) true n t ((cs.drop o).take k) = xs[i]? := by
  cases e : fs[i]? with
  | none => rw [e] at h; cases h
  | some f =>
    rw [e] at h
    simp only [Option.map_some, Option.some.injEq, Prod.mk.injEq] at h
    obtain ⟨rfl, rfl⟩ := h
    subst hc
    exact hf i f e
theorem open_st {α : Type} {E : Rp α} {t : TypeId} {fs : Array Field} (hO : Opn E t) (ht : Tryz.prog.underlying t = some (.struct fs)) {H : Type} {enc : TypeId × Value → H} {W : World} {base : Nat} {v : Value} {d : DataW H} {p : List MemPlace} (o : Value.okWide Tryz.prog W .any base t v)
    (h : DataW.Trod enc Tryz.prog W 0 (fun _ => true) true t v d p) : ∃ (x : α) (cs : List Value), v = .agg cs.toArray ∧ E.rd W W.heap.size x cs := by
  obtain ⟨cs, rfl, _⟩ := okWide_struct ht o
  obtain ⟨fuel, hf⟩ := h
  obtain ⟨x, hx⟩ := hO enc W fuel _ _ hf
  exact ⟨x, cs.toList, rfl, hx⟩
end Go.Proofs.YtlgflddljhldhaaGreat.RepC
end
section
namespace Go.Proofs.YtlgflddljhldhaaGreat.RepC
open Go.ChangeShapes Go.WideShapes Go.ChangeAt Go.RowKit Go.Joins Go.Deep RowC ValC
set_option linter.unusedVariables false
set_option maxRecDepth 100000
theorem c_int64 : Tryz.prog.cellsOf 2 = 1 := by kernel_rfl
theorem c_i64s : Tryz.prog.cellsOf 70 = 1 := by kernel_rfl
theorem c_Label : Tryz.prog.cellsOf 31 = 2 := by kernel_rfl
theorem opn_i64 : Opn I 2 := opn_int Tryz.underlying2
theorem opn_i64s : Opn (Sl I) 70 := opn_sl opn_i64 (by decide) Tryz.underlying70 c_int64
theorem opn_Label : Opn R_Label 31 := fun enc W fuel cs y h => by
  obtain ⟨xs, n, _, _, hl, hlen, hf⟩ := DataW.trod_struct Tryz.underlying31 h
  rw [c_Label] at hl
  match cs, hl with
  | [c0, c1], _ =>
    have e2 : xs.length = 2 := hlen
    match xs, e2 with
    | [y0, y1], _ =>
      have g0 := fld hf 0 2 0 1 rfl c_int64
      have g1 := fld hf 1 2 1 1 rfl c_int64
      obtain ⟨d0, h0⟩ := opn_i64 enc W n [c0] y0 g0
      obtain ⟨d1, h1⟩ := opn_i64 enc W n [c1] y1 g1
      exact ⟨(d0, d1), [c0], [c1], rfl, h0, h1⟩
theorem open_lab2 {H : Type} {enc : TypeId × Value → H} {W : World} {base : Nat} {v : Value} {d : DataW H} {p : List MemPlace} (o : Value.okWide Tryz.prog W .any base 31 v) (h : DataW.Trod enc Tryz.prog W 0 (fun _ => true) true 31 v d p) :
    ∃ l s : Int, v = .agg #[.int .i64 l, .int .i64 s] := by
  obtain ⟨⟨l, s⟩, cs, rfl, hr⟩ := open_st opn_Label Tryz.underlying31 o h
  obtain rfl := rd_Label hr
  exact ⟨l, s, rfl⟩
end Go.Proofs.YtlgflddljhldhaaGreat.RepC
end
section
namespace Go.Proofs.YtlgflddljhldhaaGreat.RepC
open Go.ChangeShapes Go.WideShapes Go.ChangeAt Go.RowKit Go.Joins Go.Deep RowC ValC
set_option linter.unusedVariables false
set_option maxRecDepth 100000
theorem c_LabelS : Tryz.prog.cellsOf 113 = 1 := by kernel_rfl
theorem c_LabelSS : Tryz.prog.cellsOf 22 = 1 := by kernel_rfl
theorem opn_LabelS : Opn (Sl R_Label) 113 := opn_sl opn_Label (by decide) Tryz.underlying113 c_Label
theorem opn_LabelSS : Opn (Sl (Sl R_Label)) 22 := opn_sl opn_LabelS (by decide) Tryz.underlying22 c_LabelS
end Go.Proofs.YtlgflddljhldhaaGreat.RepC
end
section
namespace Go.Proofs.YtlgflddljhldhaaGreat.RepC
open Go.RowKit RowC ValC
set_option linter.unusedVariables false
set_option linter.unusedSimpArgs false
theorem sizm_PairS : (R_Pair).size = 5 := rfl
set_option maxRecDepth 100000 in
set_option maxHeartbeats 3200000 in
theorem mark_PairS {L : List (D_Pair)} {a : Option Addr} {cap : Nat} {W : World} {S : Nat → Prop} {k : Int} (h0 : 0 ≤ k) (h1 : k + (sumL (R_Pair).cm L : Nat) ≤ 4611686018427387904) (hS : ∀ i, S i → i < W.heap.size) (h : OwSl R_Pair W S L a cap) : Calls Tryz.prog 56 #[.slice a L.length cap, .int .i64 k] W (MarkR R_Pair S L a cap k W) := by
  have hcap := h.1
  have hmax := h.2.1
  have hn : L.length ≤ 9223372036854775807 := by have h2 := h.2.1; unfold maxLen at h2; omega
  have H := Lib.hid h
  have HCAP := Lib.hid hcap
  have HMAX := Lib.hid hmax
  clear h hcap hmax
  rcases Nat.eq_zero_or_pos L.length with hz | hpos
  · have HR := Lib.hid (MarkR.none_ (k := k) H.out hz)
    have HZ := Lib.hid hz
    rw [hz]
    clear hz
    go_enter Tryz.func56, Tryz.ntmps56
    go_wp2
    go_loopw [5, 1] (fun i q wr => i = .int .i64 0 ∧ q = .int .i64 k ∧ wr = W) (fun i _ _ => 0)
    case atStart => exact ⟨rfl, rfl, rfl⟩
    case round =>
      obtain ⟨rfl, rfl, rfl⟩ := hrel
      go_wp2
      go_ret
      exact HR.out
  · obtain ⟨g, Sf, rfl, hrow⟩ := H.out.row hpos
    have HM := Lib.hid (Mkd.start (k := k) hrow)
    clear hrow
    go_enter Tryz.func56, Tryz.ntmps56
    go_wp2
    go_loopw [5, 1] (fun i q wr => ∃ j : Nat, j ≤ L.length ∧ i = .int .i64 j ∧ ∃ (M : List (D_Pair)) (z : Int), q = .int .i64 z ∧ Mkd R_Pair W wr S L g Sf k z j M) (fun i _ _ => L.length - (intOf i).toNat)
    case atStart => exact ⟨0, Nat.zero_le _, rfl, _, _, rfl, HM.out⟩
    case round =>
      obtain ⟨j, hj, rfl, M, z, rfl, hM⟩ := hrel
      have HM2 := Lib.hid hM
      have hSw : ∀ i, S i → i < wr.heap.size := fun i hi => Nat.lt_of_lt_of_le (hS i hi) hM.off.size
      have HSW := Lib.hid hSw
      by_cases hlt : j < L.length
      · obtain ⟨⟨⟨x0, x1⟩, ⟨x2, x3⟩, x4⟩, hx⟩ := el_some hlt
        have HX := Lib.hid hx
        have hcm := sumL_take (R_Pair).cm hx
        have hle := sumL_take_le (R_Pair).cm L (j + 1)
        have hnum := hM.num
        obtain ⟨us, hu, hr⟩ := hM.el hx
        obtain rfl := ow0_Pair hr
        have hgl : g < wr.heap.size := hSw g hM.row.own
        have hi0 : (0 : Int) ≤ (j : Int) := Int.natCast_nonneg _
        have hi1 : (j : Int) < (L.length : Int) := by omega
        have hz0 : 0 ≤ z := by omega
        have e0 : wr.cell? ⟨g, j * 5, none⟩ = some (.int .i64 x0) := by simpa [sizm_PairS, Nat.add_assoc] using hu 0 _ rfl
        have e1 : wr.cell? ⟨g, j * 5 + 1, none⟩ = some (.int .i64 x1) := by simpa [sizm_PairS, Nat.add_assoc] using hu 1 _ rfl
        have e2 : wr.cell? ⟨g, j * 5 + 2, none⟩ = some (.int .i64 x2) := by simpa [sizm_PairS, Nat.add_assoc] using hu 2 _ rfl
        have e3 : wr.cell? ⟨g, j * 5 + 3, none⟩ = some (.int .i64 x3) := by simpa [sizm_PairS, Nat.add_assoc] using hu 3 _ rfl
        have e4 : wr.cell? ⟨g, j * 5 + 4, none⟩ = some (.int .i64 x4) := by simpa [sizm_PairS, Nat.add_assoc] using hu 4 _ rfl
        have s0 := hM.row.soft (j * 5)
        have s1 := hM.row.soft (j * 5 + 1)
        have s2 := hM.row.soft (j * 5 + 2)
        have s3 := hM.row.soft (j * 5 + 3)
        have s4 := hM.row.soft (j * 5 + 4)
        have hcx : R_Pair.cm ((x0, x1), (x2, x3), x4) = 5 := by first | (simp only [R_Pair, R_Label, R_Label, Pr, I, atom, Sl]; done) | (simp only [R_Pair, R_Label, R_Label, Pr, I, atom, Sl]; omega)
        rw [hcm, hcx] at hle
        have hb1 : z + ((5 : Nat) : Int) ≤ 4611686018427387904 := by omega
        have hne : ¬ Sf j g := fun hg => (HM2.out.row.sub j g hg).2 rfl
        have HU0 := Lib.hid (Upd.refl wr g (j * 5) ((j + 1) * 5) (Sf j))
        have HF0 := Lib.hid (Off.refl S wr)
        clear hM hSw hx hu hcm hle hnum
        have hc := putCells_cells g [.int .i64 (z), .int .i64 (z + 1), .int .i64 (z + 1 + 1), .int .i64 (z + 1 + 1 + 1), .int .i64 (z + 1 + 1 + 1 + 1)] wr (j * 5) (fun p hp => by
          match p, hp with
          | 0, _ => exact ⟨_, by simpa [Nat.add_assoc] using e0⟩
          | 1, _ => exact ⟨_, by simpa [Nat.add_assoc] using e1⟩
          | 2, _ => exact ⟨_, by simpa [Nat.add_assoc] using e2⟩
          | 3, _ => exact ⟨_, by simpa [Nat.add_assoc] using e3⟩
          | 4, _ => exact ⟨_, by simpa [Nat.add_assoc] using e4⟩
          | _ + 5, hp => simp at hp; omega)
        have d0 : (putCells wr g (j * 5) [.int .i64 (z), .int .i64 (z + 1), .int .i64 (z + 1 + 1), .int .i64 (z + 1 + 1 + 1), .int .i64 (z + 1 + 1 + 1 + 1)]).cell? ⟨g, j * 5, none⟩ = some (.int .i64 (z)) := by simpa [Nat.add_assoc] using hc 0 _ rfl
        have d1 : (putCells wr g (j * 5) [.int .i64 (z), .int .i64 (z + 1), .int .i64 (z + 1 + 1), .int .i64 (z + 1 + 1 + 1), .int .i64 (z + 1 + 1 + 1 + 1)]).cell? ⟨g, j * 5 + 1, none⟩ = some (.int .i64 (z + 1)) := by simpa [Nat.add_assoc] using hc 1 _ rfl
        have d2 : (putCells wr g (j * 5) [.int .i64 (z), .int .i64 (z + 1), .int .i64 (z + 1 + 1), .int .i64 (z + 1 + 1 + 1), .int .i64 (z + 1 + 1 + 1 + 1)]).cell? ⟨g, j * 5 + 2, none⟩ = some (.int .i64 (z + 1 + 1)) := by simpa [Nat.add_assoc] using hc 2 _ rfl
        have d3 : (putCells wr g (j * 5) [.int .i64 (z), .int .i64 (z + 1), .int .i64 (z + 1 + 1), .int .i64 (z + 1 + 1 + 1), .int .i64 (z + 1 + 1 + 1 + 1)]).cell? ⟨g, j * 5 + 3, none⟩ = some (.int .i64 (z + 1 + 1 + 1)) := by simpa [Nat.add_assoc] using hc 3 _ rfl
        have d4 : (putCells wr g (j * 5) [.int .i64 (z), .int .i64 (z + 1), .int .i64 (z + 1 + 1), .int .i64 (z + 1 + 1 + 1), .int .i64 (z + 1 + 1 + 1 + 1)]).cell? ⟨g, j * 5 + 4, none⟩ = some (.int .i64 (z + 1 + 1 + 1 + 1)) := by simpa [Nat.add_assoc] using hc 4 _ rfl
        have t0 : (putCells wr g (j * 5) [.int .i64 (z), .int .i64 (z + 1), .int .i64 (z + 1 + 1), .int .i64 (z + 1 + 1 + 1), .int .i64 (z + 1 + 1 + 1 + 1)]).frozen? ⟨g, j * 5, none⟩ = false := (putCells_frozen g _ _ wr _).trans s0
        have t1 : (putCells wr g (j * 5) [.int .i64 (z), .int .i64 (z + 1), .int .i64 (z + 1 + 1), .int .i64 (z + 1 + 1 + 1), .int .i64 (z + 1 + 1 + 1 + 1)]).frozen? ⟨g, j * 5 + 1, none⟩ = false := (putCells_frozen g _ _ wr _).trans s1
        have t2 : (putCells wr g (j * 5) [.int .i64 (z), .int .i64 (z + 1), .int .i64 (z + 1 + 1), .int .i64 (z + 1 + 1 + 1), .int .i64 (z + 1 + 1 + 1 + 1)]).frozen? ⟨g, j * 5 + 2, none⟩ = false := (putCells_frozen g _ _ wr _).trans s2
        have t3 : (putCells wr g (j * 5) [.int .i64 (z), .int .i64 (z + 1), .int .i64 (z + 1 + 1), .int .i64 (z + 1 + 1 + 1), .int .i64 (z + 1 + 1 + 1 + 1)]).frozen? ⟨g, j * 5 + 3, none⟩ = false := (putCells_frozen g _ _ wr _).trans s3
        have t4 : (putCells wr g (j * 5) [.int .i64 (z), .int .i64 (z + 1), .int .i64 (z + 1 + 1), .int .i64 (z + 1 + 1 + 1), .int .i64 (z + 1 + 1 + 1 + 1)]).frozen? ⟨g, j * 5 + 4, none⟩ = false := (putCells_frozen g _ _ wr _).trans s4
        have HU1 := Lib.hid (HU0.out.trans (Upd.put wr (Sf j) (g := g) (o := j * 5) (cs := [.int .i64 (z), .int .i64 (z + 1), .int .i64 (z + 1 + 1), .int .i64 (z + 1 + 1 + 1), .int .i64 (z + 1 + 1 + 1 + 1)]) ⟨by omega, by first | (simp; done) | (simp; omega)⟩))
        have HF1 := Lib.hid (HF0.out.trans ((putCells_off g [.int .i64 (z), .int .i64 (z + 1), .int .i64 (z + 1 + 1), .int .i64 (z + 1 + 1 + 1), .int .i64 (z + 1 + 1 + 1 + 1)] wr (j * 5)).more (fun x e => by rw [e]; exact HM2.out.row.own)))
        clear hc
        have hcf : CellsAt (putCells wr g (j * 5) [.int .i64 (z), .int .i64 (z + 1), .int .i64 (z + 1 + 1), .int .i64 (z + 1 + 1 + 1), .int .i64 (z + 1 + 1 + 1 + 1)]) g (j * 5) [.int .i64 (z), .int .i64 (z + 1), .int .i64 (z + 1 + 1), .int .i64 (z + 1 + 1 + 1), .int .i64 (z + 1 + 1 + 1 + 1)] := CellsAt.cons.2 ⟨d0, CellsAt.cons.2 ⟨d1, CellsAt.cons.2 ⟨d2, CellsAt.cons.2 ⟨d3, CellsAt.cons.2 ⟨d4, CellsAt.nil⟩⟩⟩⟩⟩
        have HSTEP := Lib.hid (HM2.out.step R_Pair_ok (w' := (putCells wr g (j * 5) [.int .i64 (z), .int .i64 (z + 1), .int .i64 (z + 1 + 1), .int .i64 (z + 1 + 1 + 1), .int .i64 (z + 1 + 1 + 1 + 1)])) (y := ((z, z + 1), (z + 1 + 1, z + 1 + 1 + 1), z + 1 + 1 + 1 + 1)) (q' := z + 1 + 1 + 1 + 1 + 1) HSW.out HX.out HU1.out HF1.out hcf (mkow_Pair) (mmk_Pair) (by rw [hcx]; omega))
        clear d0 t0 d1 t1 d2 t2 d3 t3 d4 t4
        have hzb : 0 ≤ z + 1 + 1 + 1 + 1 + 1 ∧ z + 1 + 1 + 1 + 1 + 1 ≤ 4611686018427387904 := by omega
        clear hcf hcx
        go_wp2
        go_roundw
        case rel => exact ⟨j + 1, by omega, by go_num, _, _, rfl, by first | exact HSTEP.out | simpa [putCells, Nat.add_assoc, Int.add_assoc] using HSTEP.out⟩
        case measure => simp [intOf]; omega
      · obtain rfl : j = L.length := by omega
        have HR := Lib.hid (HM2.out.done HCAP.out HMAX.out)
        clear hM hSw
        go_wp2
        go_ret
        exact HR.out
theorem sizm_QuotaS : (R_Quota).size = 3 := rfl
set_option maxRecDepth 100000 in
set_option maxHeartbeats 3200000 in
theorem mark_QuotaS {L : List (D_Quota)} {a : Option Addr} {cap : Nat} {W : World} {S : Nat → Prop} {k : Int} (h0 : 0 ≤ k) (h1 : k + (sumL (R_Quota).cm L : Nat) ≤ 4611686018427387904) (hS : ∀ i, S i → i < W.heap.size) (h : OwSl R_Quota W S L a cap) : Calls Tryz.prog 57 #[.slice a L.length cap, .int .i64 k] W (MarkR R_Quota S L a cap k W) := by
  have hcap := h.1
  have hmax := h.2.1
  have hn : L.length ≤ 9223372036854775807 := by have h2 := h.2.1; unfold maxLen at h2; omega
  have H := Lib.hid h
  have HCAP := Lib.hid hcap
  have HMAX := Lib.hid hmax
  clear h hcap hmax
  rcases Nat.eq_zero_or_pos L.length with hz | hpos
  · have HR := Lib.hid (MarkR.none_ (k := k) H.out hz)
    have HZ := Lib.hid hz
    rw [hz]
    clear hz
    go_enter Tryz.func57, Tryz.ntmps57
    go_wp2
    go_loopw [5, 1] (fun i q wr => i = .int .i64 0 ∧ q = .int .i64 k ∧ wr = W) (fun i _ _ => 0)
    case atStart => exact ⟨rfl, rfl, rfl⟩
    case round =>
      obtain ⟨rfl, rfl, rfl⟩ := hrel
      go_wp2
      go_ret
      exact HR.out
  · obtain ⟨g, Sf, rfl, hrow⟩ := H.out.row hpos
    have HM := Lib.hid (Mkd.start (k := k) hrow)
    clear hrow
    go_enter Tryz.func57, Tryz.ntmps57
    go_wp2
    go_loopw [5, 1] (fun i q wr => ∃ j : Nat, j ≤ L.length ∧ i = .int .i64 j ∧ ∃ (M : List (D_Quota)) (z : Int), q = .int .i64 z ∧ Mkd R_Quota W wr S L g Sf k z j M) (fun i _ _ => L.length - (intOf i).toNat)
    case atStart => exact ⟨0, Nat.zero_le _, rfl, _, _, rfl, HM.out⟩
    case round =>
      obtain ⟨j, hj, rfl, M, z, rfl, hM⟩ := hrel
      have HM2 := Lib.hid hM
      have hSw : ∀ i, S i → i < wr.heap.size := fun i hi => Nat.lt_of_lt_of_le (hS i hi) hM.off.size
      have HSW := Lib.hid hSw
      by_cases hlt : j < L.length
      · obtain ⟨⟨⟨x0, x1⟩, x2⟩, hx⟩ := el_some hlt
        have HX := Lib.hid hx
        have hcm := sumL_take (R_Quota).cm hx
        have hle := sumL_take_le (R_Quota).cm L (j + 1)
        have hnum := hM.num
        obtain ⟨us, hu, hr⟩ := hM.el hx
        obtain rfl := ow0_Quota hr
        have hgl : g < wr.heap.size := hSw g hM.row.own
        have hi0 : (0 : Int) ≤ (j : Int) := Int.natCast_nonneg _
        have hi1 : (j : Int) < (L.length : Int) := by omega
        have hz0 : 0 ≤ z := by omega
        have e0 : wr.cell? ⟨g, j * 3, none⟩ = some (.int .i64 x0) := by simpa [sizm_QuotaS, Nat.add_assoc] using hu 0 _ rfl
        have e1 : wr.cell? ⟨g, j * 3 + 1, none⟩ = some (.int .i64 x1) := by simpa [sizm_QuotaS, Nat.add_assoc] using hu 1 _ rfl
        have e2 : wr.cell? ⟨g, j * 3 + 2, none⟩ = some (.int .i64 x2) := by simpa [sizm_QuotaS, Nat.add_assoc] using hu 2 _ rfl
        have s0 := hM.row.soft (j * 3)
        have s1 := hM.row.soft (j * 3 + 1)
        have s2 := hM.row.soft (j * 3 + 2)
        have hcx : R_Quota.cm ((x0, x1), x2) = 3 := by first | (simp only [R_Quota, R_Label, Pr, I, atom, Sl]; done) | (simp only [R_Quota, R_Label, Pr, I, atom, Sl]; omega)
        rw [hcm, hcx] at hle
        have hb1 : z + ((3 : Nat) : Int) ≤ 4611686018427387904 := by omega
        have hne : ¬ Sf j g := fun hg => (HM2.out.row.sub j g hg).2 rfl
        have HU0 := Lib.hid (Upd.refl wr g (j * 3) ((j + 1) * 3) (Sf j))
        have HF0 := Lib.hid (Off.refl S wr)
        clear hM hSw hx hu hcm hle hnum
        have hc := putCells_cells g [.int .i64 (z), .int .i64 (z + 1), .int .i64 (z + 1 + 1)] wr (j * 3) (fun p hp => by
          match p, hp with
          | 0, _ => exact ⟨_, by simpa [Nat.add_assoc] using e0⟩
          | 1, _ => exact ⟨_, by simpa [Nat.add_assoc] using e1⟩
          | 2, _ => exact ⟨_, by simpa [Nat.add_assoc] using e2⟩
          | _ + 3, hp => simp at hp; omega)
        have d0 : (putCells wr g (j * 3) [.int .i64 (z), .int .i64 (z + 1), .int .i64 (z + 1 + 1)]).cell? ⟨g, j * 3, none⟩ = some (.int .i64 (z)) := by simpa [Nat.add_assoc] using hc 0 _ rfl
        have d1 : (putCells wr g (j * 3) [.int .i64 (z), .int .i64 (z + 1), .int .i64 (z + 1 + 1)]).cell? ⟨g, j * 3 + 1, none⟩ = some (.int .i64 (z + 1)) := by simpa [Nat.add_assoc] using hc 1 _ rfl
        have d2 : (putCells wr g (j * 3) [.int .i64 (z), .int .i64 (z + 1), .int .i64 (z + 1 + 1)]).cell? ⟨g, j * 3 + 2, none⟩ = some (.int .i64 (z + 1 + 1)) := by simpa [Nat.add_assoc] using hc 2 _ rfl
        have t0 : (putCells wr g (j * 3) [.int .i64 (z), .int .i64 (z + 1), .int .i64 (z + 1 + 1)]).frozen? ⟨g, j * 3, none⟩ = false := (putCells_frozen g _ _ wr _).trans s0
        have t1 : (putCells wr g (j * 3) [.int .i64 (z), .int .i64 (z + 1), .int .i64 (z + 1 + 1)]).frozen? ⟨g, j * 3 + 1, none⟩ = false := (putCells_frozen g _ _ wr _).trans s1
        have t2 : (putCells wr g (j * 3) [.int .i64 (z), .int .i64 (z + 1), .int .i64 (z + 1 + 1)]).frozen? ⟨g, j * 3 + 2, none⟩ = false := (putCells_frozen g _ _ wr _).trans s2
        have HU1 := Lib.hid (HU0.out.trans (Upd.put wr (Sf j) (g := g) (o := j * 3) (cs := [.int .i64 (z), .int .i64 (z + 1), .int .i64 (z + 1 + 1)]) ⟨by omega, by first | (simp; done) | (simp; omega)⟩))
        have HF1 := Lib.hid (HF0.out.trans ((putCells_off g [.int .i64 (z), .int .i64 (z + 1), .int .i64 (z + 1 + 1)] wr (j * 3)).more (fun x e => by rw [e]; exact HM2.out.row.own)))
        clear hc
        have hcf : CellsAt (putCells wr g (j * 3) [.int .i64 (z), .int .i64 (z + 1), .int .i64 (z + 1 + 1)]) g (j * 3) [.int .i64 (z), .int .i64 (z + 1), .int .i64 (z + 1 + 1)] := CellsAt.cons.2 ⟨d0, CellsAt.cons.2 ⟨d1, CellsAt.cons.2 ⟨d2, CellsAt.nil⟩⟩⟩
        have HSTEP := Lib.hid (HM2.out.step R_Quota_ok (w' := (putCells wr g (j * 3) [.int .i64 (z), .int .i64 (z + 1), .int .i64 (z + 1 + 1)])) (y := ((z, z + 1), z + 1 + 1)) (q' := z + 1 + 1 + 1) HSW.out HX.out HU1.out HF1.out hcf (mkow_Quota) (mmk_Quota) (by rw [hcx]; omega))
        clear d0 t0 d1 t1 d2 t2
        have hzb : 0 ≤ z + 1 + 1 + 1 ∧ z + 1 + 1 + 1 ≤ 4611686018427387904 := by omega
        clear hcf hcx
        go_wp2
        go_roundw
        case rel => exact ⟨j + 1, by omega, by go_num, _, _, rfl, by first | exact HSTEP.out | simpa [putCells, Nat.add_assoc, Int.add_assoc] using HSTEP.out⟩
        case measure => simp [intOf]; omega
      · obtain rfl : j = L.length := by omega
        have HR := Lib.hid (HM2.out.done HCAP.out HMAX.out)
        clear hM hSw
        go_wp2
        go_ret
        exact HR.out
def MarkV_Config (L0 : List (List (D_Label))) (L1 : List (D_Pair)) (L2 : List (D_Quota)) (x3 : Int) (a0 : Option Addr) (c0 : Nat) (a1 : Option Addr) (c1 : Nat) (a2 : Option Addr) (c2 : Nat) (T0 : Nat → Prop) (T1 : Nat → Prop) (T2 : Nat → Prop) (k : Int) (W : World) (e : Ending) (w' : World) : Prop := ∃ z0 z1 z2 : Int, ∃ (y0 : List (List (D_Label))) (y1 : List (D_Pair)) (y2 : List (D_Quota)), e = .returned (.int .i64 z2) ∧ (y0.length = L0.length ∧ mmL (Sl R_Label) y0 k z0 ∧ z0 = k + (sumL ((Sl R_Label)).cm L0 : Nat) ∧ OwSl (Sl R_Label) w' T0 y0 a0 c0) ∧ (y1.length = L1.length ∧ mmL R_Pair y1 z0 z1 ∧ z1 = z0 + (sumL (R_Pair).cm L1 : Nat) ∧ OwSl R_Pair w' T1 y1 a1 c1) ∧ (y2.length = L2.length ∧ mmL R_Quota y2 z1 z2 ∧ z2 = z1 + (sumL (R_Quota).cm L2 : Nat) ∧ OwSl R_Quota w' T2 y2 a2 c2) ∧ Off (fun q => T0 q ∨ T1 q ∨ T2 q) W w'
set_option maxRecDepth 100000 in
set_option maxHeartbeats 1600000 in
theorem mark_Config {L0 : List (List (D_Label))} {L1 : List (D_Pair)} {L2 : List (D_Quota)} {x3 : Int} {a0 : Option Addr} {c0 : Nat} {a1 : Option Addr} {c1 : Nat} {a2 : Option Addr} {c2 : Nat} {W : World} {T0 : Nat → Prop} {T1 : Nat → Prop} {T2 : Nat → Prop} {k : Int} (h0 : 0 ≤ k) (h1 : k + (sumL ((Sl R_Label)).cm L0 : Nat) + (sumL (R_Pair).cm L1 : Nat) + (sumL (R_Quota).cm L2 : Nat) ≤ 4611686018427387904) (hS0 : ∀ q, T0 q → q < W.heap.size) (hS1 : ∀ q, T1 q → q < W.heap.size) (hS2 : ∀ q, T2 q → q < W.heap.size) (hd0_1 : ∀ q, T0 q → T1 q → False) (hd0_2 : ∀ q, T0 q → T2 q → False) (hd1_2 : ∀ q, T1 q → T2 q → False) (h_L0 : OwSl (Sl R_Label) W T0 L0 a0 c0) (h_L1 : OwSl R_Pair W T1 L1 a1 c1) (h_L2 : OwSl R_Quota W T2 L2 a2 c2) : Calls Tryz.prog 18 #[.agg #[.slice a0 L0.length c0, .slice a1 L1.length c1, .slice a2 L2.length c2, .int .i64 x3], .int .i64 k] W (MarkV_Config L0 L1 L2 x3 a0 c0 a1 c1 a2 c2 T0 T1 T2 k W) := by
  have HOFF0 := Lib.hid (show Off (fun q => T0 q ∨ T1 q ∨ T2 q) W (W.alloc (.cells #[.slice a0 L0.length c0, .slice a1 L1.length c1, .slice a2 L2.length c2, .int .i64 x3] 44)) from (Off.refl _ _).alloc _)
  have hP := Blk.new W 44 #[.slice a0 L0.length c0, .slice a1 L1.length c1, .slice a2 L2.length c2, .int .i64 x3]
  have HP0 := Lib.hid hP
  have hz0 : W.heap.size < (W.alloc (.cells #[.slice a0 L0.length c0, .slice a1 L1.length c1, .slice a2 L2.length c2, .int .i64 x3] 44)).heap.size := by simp
  clear hP
  have K_L0 := Lib.hid (OwSl.keep (Sl_ok R_Label_ok) (W' := W.alloc (.cells #[.slice a0 L0.length c0, .slice a1 L1.length c1, .slice a2 L2.length c2, .int .i64 x3] 44)) h_L0 (fun q hq => Below.heap_alloc _ _ _ (hS0 q hq)))
  have HS0 := Lib.hid hS0
  have K_L1 := Lib.hid (OwSl.keep R_Pair_ok (W' := W.alloc (.cells #[.slice a0 L0.length c0, .slice a1 L1.length c1, .slice a2 L2.length c2, .int .i64 x3] 44)) h_L1 (fun q hq => Below.heap_alloc _ _ _ (hS1 q hq)))
  have HS1 := Lib.hid hS1
  have K_L2 := Lib.hid (OwSl.keep R_Quota_ok (W' := W.alloc (.cells #[.slice a0 L0.length c0, .slice a1 L1.length c1, .slice a2 L2.length c2, .int .i64 x3] 44)) h_L2 (fun q hq => Below.heap_alloc _ _ _ (hS2 q hq)))
  have HS2 := Lib.hid hS2
  have HD0_1 := Lib.hid hd0_1
  have HD0_2 := Lib.hid hd0_2
  have HD1_2 := Lib.hid hd1_2
  clear h_L0 h_L1 h_L2 hS0 hS1 hS2 hd0_1 hd0_2 hd1_2
  go_enter Tryz.func18, Tryz.ntmps18
  have hbz : 0 ≤ k ∧ k + (sumL ((Sl R_Label)).cm L0 : Nat) ≤ 4611686018427387904 := by omega
  go_wp2_with fail
  refine (mark_LabelSS (W := W.alloc (.cells #[.slice a0 L0.length c0, .slice a1 L1.length c1, .slice a2 L2.length c2, .int .i64 x3] 44)) hbz.1 hbz.2 (fun q hq => Nat.lt_trans (HS0.out q hq) hz0) K_L0.out).mono ?_
  intro e w1 h
  obtain ⟨y0, z0, rfl, hyl, hmm, hzz, how, hoff⟩ := markR_elim h
  have HP1 := Lib.hid (Blk.off HP0.out hoff hz0 (fun hg => Nat.lt_irrefl _ (HS0.out _ hg)))
  have HOFF1 := Lib.hid (HOFF0.out.trans (hoff.more (fun q hq => Or.inl hq)))
  have hz1 : W.heap.size < w1.heap.size := Nat.lt_of_lt_of_le hz0 hoff.size
  have K_L1 := Lib.hid (K_L1.out.keep R_Pair_ok (fun q hq => hoff.block q (Nat.lt_trans (HS1.out q hq) hz0) (fun hi => HD0_1.out q hi hq)))
  have K_L2 := Lib.hid (K_L2.out.keep R_Quota_ok (fun q hq => hoff.block q (Nat.lt_trans (HS2.out q hq) hz0) (fun hi => HD0_2.out q hi hq)))
  have K_L0 := Lib.hid how
  have HMM0 := Lib.hid hmm
  have HYL0 := Lib.hid hyl
  have HZZ0 := Lib.hid hzz
  have hzn0 : 0 ≤ z0 ∧ z0 ≤ 4611686018427387904 := by omega
  clear h hyl hmm how hoff hzz hbz
  have p1_0 := HP1.out.at_ 0 rfl
  have p1_1 := HP1.out.at_ 1 rfl
  have p1_2 := HP1.out.at_ 2 rfl
  have hbz : 0 ≤ z0 ∧ z0 + (sumL (R_Pair).cm L1 : Nat) ≤ 4611686018427387904 := by have q0 := HZZ0.out; omega
  go_wp2_with fail
  refine (mark_PairS (W := w1) hbz.1 hbz.2 (fun q hq => Nat.lt_trans (HS1.out q hq) hz1) K_L1.out).mono ?_
  intro e w2 h
  obtain ⟨y1, z1, rfl, hyl, hmm, hzz, how, hoff⟩ := markR_elim h
  have HP2 := Lib.hid (Blk.off HP1.out hoff hz1 (fun hg => Nat.lt_irrefl _ (HS1.out _ hg)))
  have HOFF2 := Lib.hid (HOFF1.out.trans (hoff.more (fun q hq => Or.inr (Or.inl hq))))
  have hz2 : W.heap.size < w2.heap.size := Nat.lt_of_lt_of_le hz1 hoff.size
  have K_L0 := Lib.hid (K_L0.out.keep (Sl_ok R_Label_ok) (fun q hq => hoff.block q (Nat.lt_trans (HS0.out q hq) hz1) (fun hi => HD0_1.out q hq hi)))
  have K_L2 := Lib.hid (K_L2.out.keep R_Quota_ok (fun q hq => hoff.block q (Nat.lt_trans (HS2.out q hq) hz1) (fun hi => HD1_2.out q hi hq)))
  have K_L1 := Lib.hid how
  have HMM1 := Lib.hid hmm
  have HYL1 := Lib.hid hyl
  have HZZ1 := Lib.hid hzz
  have hzn1 : 0 ≤ z1 ∧ z1 ≤ 4611686018427387904 := by omega
  clear h hyl hmm how hoff hzz hbz
  have p2_0 := HP2.out.at_ 0 rfl
  have p2_1 := HP2.out.at_ 1 rfl
  have p2_2 := HP2.out.at_ 2 rfl
  have hbz : 0 ≤ z1 ∧ z1 + (sumL (R_Quota).cm L2 : Nat) ≤ 4611686018427387904 := by have q0 := HZZ0.out; have q1 := HZZ1.out; omega
  go_wp2_with fail
  refine (mark_QuotaS (W := w2) hbz.1 hbz.2 (fun q hq => Nat.lt_trans (HS2.out q hq) hz2) K_L2.out).mono ?_
  intro e w3 h
  obtain ⟨y2, z2, rfl, hyl, hmm, hzz, how, hoff⟩ := markR_elim h
  have HP3 := Lib.hid (Blk.off HP2.out hoff hz2 (fun hg => Nat.lt_irrefl _ (HS2.out _ hg)))
  have HOFF3 := Lib.hid (HOFF2.out.trans (hoff.more (fun q hq => Or.inr (Or.inr (hq)))))
  have hz3 : W.heap.size < w3.heap.size := Nat.lt_of_lt_of_le hz2 hoff.size
  have K_L0 := Lib.hid (K_L0.out.keep (Sl_ok R_Label_ok) (fun q hq => hoff.block q (Nat.lt_trans (HS0.out q hq) hz2) (fun hi => HD0_2.out q hq hi)))
  have K_L1 := Lib.hid (K_L1.out.keep R_Pair_ok (fun q hq => hoff.block q (Nat.lt_trans (HS1.out q hq) hz2) (fun hi => HD1_2.out q hq hi)))
  have K_L2 := Lib.hid how
  have HMM2 := Lib.hid hmm
  have HYL2 := Lib.hid hyl
  have HZZ2 := Lib.hid hzz
  have hzn2 : 0 ≤ z2 ∧ z2 ≤ 4611686018427387904 := by omega
  clear h hyl hmm how hoff hzz hbz
  have p3_0 := HP3.out.at_ 0 rfl
  have p3_1 := HP3.out.at_ 1 rfl
  have p3_2 := HP3.out.at_ 2 rfl
  go_wp2
  go_ret
  exact ⟨z0, z1, z2, y0, y1, y2, rfl, ⟨HYL0.out, HMM0.out, HZZ0.out, K_L0.out⟩, ⟨HYL1.out, HMM1.out, HZZ1.out, K_L1.out⟩, ⟨HYL2.out, HMM2.out, HZZ2.out, K_L2.out⟩, HOFF3.out⟩
end Go.Proofs.YtlgflddljhldhaaGreat.RepC
end
section
namespace Go.Proofs.YtlgflddljhldhaaGreat.RepC
open Go.RowKit RowC ValC
set_option linter.unusedVariables false
set_option linter.unusedSimpArgs false
theorem gsz_Config {d : D_Config} {cs : List Value} {W : World} {l : Int} (h0 : 0 ≤ l) (h1 : l ≤ 1048576) (h : R_Config.rd W W.heap.size d cs) : Calls Tryz.prog 8 #[.agg cs.toArray, .int .i64 l] W (SzC l (R_Config.sz d) W) := by
  obtain ⟨L0, L1, L2, x3⟩ := d
  obtain ⟨a0, c0, a1, c1, a2, c2, rfl, k_L0, k_L1, k_L2⟩ := rd_Config h
  exact sz_Config h0 h1 k_L0 k_L1 k_L2
theorem gto_Config {d : D_Config} {cs : List Value} {W : World} (hsz : R_Config.sz d ≤ 1048576) (h : R_Config.rd W W.heap.size d cs) : Calls Tryz.prog 11 #[.agg cs.toArray] W (NewV R_Config d W) := by
  obtain ⟨L0, L1, L2, x3⟩ := d
  obtain ⟨a0, c0, a1, c1, a2, c2, rfl, k_L0, k_L1, k_L2⟩ := rd_Config h
  exact to_Config hsz k_L0 k_L1 k_L2
theorem geq_Config {d : D_Config} {cs cs' : List Value} {W : World} (h : R_Config.rd W W.heap.size d cs) (h' : R_Config.rd W W.heap.size d cs') : Calls Tryz.prog 16 #[.agg cs.toArray, .agg cs'.toArray] W (IsB true W) := by
  obtain ⟨L0, L1, L2, x3⟩ := d
  obtain ⟨a0, c0, a1, c1, a2, c2, rfl, k_L0, k_L1, k_L2⟩ := rd_Config h
  obtain ⟨a0', c0', a1', c1', a2', c2', rfl, k'_L0, k'_L1, k'_L2⟩ := rd_Config h'
  exact eq_Config k_L0 k_L1 k_L2 k'_L0 k'_L1 k'_L2
theorem owc_Config {W : World} {S : Nat → Prop} {L0 : List (List (D_Label))} {L1 : List (D_Pair)} {L2 : List (D_Quota)} {x3 : Int} {cs : List Value} (h : R_Config.ow W S (L0, L1, L2, x3) cs) : ∃ a0 c0 a1 c1 a2 c2, cs = [.slice a0 L0.length c0, .slice a1 L1.length c1, .slice a2 L2.length c2, .int .i64 x3] ∧ R_Config.ow W S (L0, L1, L2, x3) [.slice a0 L0.length c0, .slice a1 L1.length c1, .slice a2 L2.length c2, .int .i64 x3] := by
  have h0 := h
  obtain ⟨a0, c0, a1, c1, a2, c2, T0, T1, T2, rfl, _⟩ := ow_Config h
  exact ⟨a0, c0, a1, c1, a2, c2, rfl, h0⟩
theorem rdc_Config {W : World} {B : Nat} {L0 : List (List (D_Label))} {L1 : List (D_Pair)} {L2 : List (D_Quota)} {x3 : Int} {cs : List Value} (h : R_Config.rd W B (L0, L1, L2, x3) cs) : ∃ a0 c0 a1 c1 a2 c2, cs = [.slice a0 L0.length c0, .slice a1 L1.length c1, .slice a2 L2.length c2, .int .i64 x3] ∧ R_Config.rd W B (L0, L1, L2, x3) [.slice a0 L0.length c0, .slice a1 L1.length c1, .slice a2 L2.length c2, .int .i64 x3] := by
  have h0 := h
  obtain ⟨a0, c0, a1, c1, a2, c2, rfl, _⟩ := rd_Config h
  exact ⟨a0, c0, a1, c1, a2, c2, rfl, h0⟩
theorem cvd_Config {L0 : List (List (D_Label))} {L1 : List (D_Pair)} {L2 : List (D_Quota)} {x3 : Int} : R_Config.cv (L0, L1, L2, x3) = sumL ((Sl R_Label)).cm L0 + sumL (R_Pair).cm L1 + sumL (R_Quota).cm L2 := by
  simp only [R_Config, Pr, Sl, I, Bo, atom]; omega
set_option maxRecDepth 100000 in
theorem gmark_Config {d : D_Config} {cs : List Value} {W : World} {S : Nat → Prop} {k : Int} (h0 : 0 ≤ k) (h1 : k + (R_Config.cv d : Nat) ≤ 4611686018427387904) (hS : ∀ q, S q → q < W.heap.size) (h : R_Config.ow W S d cs) : Calls Tryz.prog 18 #[.agg cs.toArray, .int .i64 k] W (MarkG R_Config d cs S k W) := by
  obtain ⟨L0, L1, L2, x3⟩ := d
  obtain ⟨a0, c0, a1, c1, a2, c2, T0, T1, T2, rfl, hs0, hs1, hs2, hd0_1, hd0_2, hd1_2, k_L0, k_L1, k_L2⟩ := ow_Config h
  have hcv := cvd_Config (L0 := L0) (L1 := L1) (L2 := L2) (x3 := x3)
  refine (mark_Config h0 (by rw [hcv] at h1; omega) (fun q hq => hS q (hs0 q hq)) (fun q hq => hS q (hs1 q hq)) (fun q hq => hS q (hs2 q hq)) (fun q hi hj => hd0_1 q hi hj) (fun q hi hj => hd0_2 q hi hj) (fun q hi hj => hd1_2 q hi hj) k_L0 k_L1 k_L2).mono fun e w' hh => ?_
  obtain ⟨z0, z1, z2, y0, y1, y2, rfl, ⟨hl0, hm0, hz0, ho0⟩, ⟨hl1, hm1, hz1, ho1⟩, ⟨hl2, hm2, hz2, ho2⟩, hoff⟩ := hh
  have hmk := mkow_Config (x3 := x3) hs0 hs1 hs2 hd0_1 hd0_2 hd1_2 ho0 ho1 ho2
  simp only [hl0, hl1, hl2] at hmk
  exact ⟨(y0, y1, y2, x3), _, rfl, ⟨z0, hm0, ⟨z1, hm1, ⟨z2, hm2, rfl⟩⟩⟩, by rw [hcv]; omega, hmk, hoff.more fun q hq => by rcases hq with hq | hq | hq <;> first | exact hs0 q hq | exact hs1 q hq | exact hs2 q hq⟩
end Go.Proofs.YtlgflddljhldhaaGreat.RepC
end
section
namespace Go.Proofs.YtlgflddljhldhaaGreat.RepC
open Go.RowKit RowC ValC Go.ChangeShapes
set_option maxRecDepth 100000
set_option linter.unusedVariables false
set_option linter.unusedSimpArgs false
theorem c_Pair : Tryz.prog.cellsOf 123 = 5 := by kernel_rfl
theorem opn_Pair : Opn R_Pair 123 := fun enc W fuel cs y h => by
  obtain ⟨xs, n, _, _, hl, hlen, hf⟩ := DataW.trod_struct Tryz.underlying123 h
  rw [c_Pair] at hl
  match cs, hl with
  | [c0, c1, c2, c3, c4], _ =>
    have e2 : xs.length = 3 := hlen
    match xs, e2 with
    | [y0, y1, y2], _ =>
      have g0 := fld hf 0 31 0 2 rfl c_Label
      have g1 := fld hf 1 31 2 2 rfl c_Label
      have g2 := fld hf 2 2 4 1 rfl c_int64
      obtain ⟨d0, h0⟩ := opn_Label enc W n [c0, c1] y0 g0
      obtain ⟨d1, h1⟩ := opn_Label enc W n [c2, c3] y1 g1
      obtain ⟨d2, h2⟩ := opn_i64 enc W n [c4] y2 g2
      exact ⟨(d0, d1, d2), ⟨[c0, c1], [c2, c3, c4], rfl, h0, ⟨[c2, c3], [c4], rfl, h1, h2⟩⟩⟩
theorem c_PairS : Tryz.prog.cellsOf 23 = 1 := by kernel_rfl
theorem opn_PairS : Opn (Sl R_Pair) 23 := opn_sl opn_Pair (by decide) Tryz.underlying23 c_Pair
theorem c_Quota : Tryz.prog.cellsOf 128 = 3 := by kernel_rfl
theorem opn_Quota : Opn R_Quota 128 := fun enc W fuel cs y h => by
  obtain ⟨xs, n, _, _, hl, hlen, hf⟩ := DataW.trod_struct Tryz.underlying128 h
  rw [c_Quota] at hl
  match cs, hl with
  | [c0, c1, c2], _ =>
    have e2 : xs.length = 2 := hlen
    match xs, e2 with
    | [y0, y1], _ =>
      have g0 := fld hf 0 31 0 2 rfl c_Label
      have g1 := fld hf 1 2 2 1 rfl c_int64
      obtain ⟨d0, h0⟩ := opn_Label enc W n [c0, c1] y0 g0
      obtain ⟨d1, h1⟩ := opn_i64 enc W n [c2] y1 g1
      exact ⟨(d0, d1), ⟨[c0, c1], [c2], rfl, h0, h1⟩⟩
theorem c_QuotaS : Tryz.prog.cellsOf 24 = 1 := by kernel_rfl
theorem opn_QuotaS : Opn (Sl R_Quota) 24 := opn_sl opn_Quota (by decide) Tryz.underlying24 c_Quota
theorem c_Config : Tryz.prog.cellsOf 26 = 4 := by kernel_rfl
theorem opn_Config : Opn R_Config 26 := fun enc W fuel cs y h => by
  obtain ⟨xs, n, _, _, hl, hlen, hf⟩ := DataW.trod_struct Tryz.underlying26 h
  rw [c_Config] at hl
  match cs, hl with
  | [c0, c1, c2, c3], _ =>
    have e2 : xs.length = 4 := hlen
    match xs, e2 with
    | [y0, y1, y2, y3], _ =>
      have g0 := fld hf 0 22 0 1 rfl c_LabelSS
      have g1 := fld hf 1 23 1 1 rfl c_PairS
      have g2 := fld hf 2 24 2 1 rfl c_QuotaS
      have g3 := fld hf 3 2 3 1 rfl c_int64
      obtain ⟨d0, h0⟩ := opn_LabelSS enc W n [c0] y0 g0
      obtain ⟨d1, h1⟩ := opn_PairS enc W n [c1] y1 g1
      obtain ⟨d2, h2⟩ := opn_QuotaS enc W n [c2] y2 g2
      obtain ⟨d3, h3⟩ := opn_i64 enc W n [c3] y3 g3
      exact ⟨(d0, d1, d2, d3), ⟨[c0], [c1, c2, c3], rfl, h0, ⟨[c1], [c2, c3], rfl, h1, ⟨[c2], [c3], rfl, h2, h3⟩⟩⟩⟩
theorem open_Config {H : Type} {enc : TypeId × Value → H} {W : World} {base : Nat} {v : Value} {d : DataW H} {p : List MemPlace} (o : Value.okWide Tryz.prog W .any base 26 v) (h : DataW.Trod enc Tryz.prog W 0 (fun _ => true) true 26 v d p) :
    ∃ (L0 : List (List (D_Label))) (L1 : List (D_Pair)) (L2 : List (D_Quota)) (x3 : Int) (a0 : Option Addr) (c0 : Nat) (a1 : Option Addr) (c1 : Nat) (a2 : Option Addr) (c2 : Nat), v = .agg #[.slice a0 L0.length c0, .slice a1 L1.length c1, .slice a2 L2.length c2, .int .i64 x3] ∧ R_Config.rd W W.heap.size (L0, L1, L2, x3) [.slice a0 L0.length c0, .slice a1 L1.length c1, .slice a2 L2.length c2, .int .i64 x3] := by
  obtain ⟨⟨L0, L1, L2, x3⟩, cs, rfl, hr⟩ := open_st opn_Config Tryz.underlying26 o h
  obtain ⟨a0, c0, a1, c1, a2, c2, rfl, h0⟩ := rdc_Config hr
  exact ⟨L0, L1, L2, x3, a0, c0, a1, c1, a2, c2, rfl, h0⟩
end Go.Proofs.YtlgflddljhldhaaGreat.RepC
end
section
namespace Go.Proofs.YtlgflddljhldhaaGreat.RepC
open Go.RowKit RowC ValC
theorem eql_lab (y0 y1 x0 x1 : Int) (b : Bool) (hb : decide (((y0, y1) : Int × Int) = (x0, x1)) = b) : ∀ w, (binOp .eql 47 (.agg #[.int .i64 y0, .int .i64 y1]) (.agg #[.int .i64 x0, .int .i64 x1])).run Tryz.prog w = .ok (.bool b) w := by
  intro w
  subst hb
  go_simp
  repeat' split
  all_goals simp_all
theorem neq_lab (y0 y1 x0 x1 : Int) (b : Bool) (hb : decide (((y0, y1) : Int × Int) = (x0, x1)) = b) : ∀ w, (binOp .neq 47 (.agg #[.int .i64 y0, .int .i64 y1]) (.agg #[.int .i64 x0, .int .i64 x1])).run Tryz.prog w = .ok (.bool (!b)) w := by
  intro w
  subst hb
  go_simp
  repeat' split
  all_goals simp_all
end Go.Proofs.YtlgflddljhldhaaGreat.RepC
end
