/- Of this claim's texts the part 12: Lift Opn JobO PlOpn CfG CfO LabEq. -/
import Derived.Test.YtlgflddljhldhaaGreatRows
import Derived.ProofKit
import Derived.OpenShut
import Derived.Below
import Derived.Carry
import Derived.ChangeOld
import Derived.Lib.SmallJoins
import Derived.Deep.Slices
import Derived.Laws.StructEq
import Derived.WalkLawsBesides
import Derived.Test.YtlgflddljhldhaaGreatPU3
import Derived.Test.YtlgflddljhldhaaGreatPU8
section
namespace Go.Proofs.YtlgflddljhldhaaGreat.LiftL
open Go.ChangeShapes Go.WideShapes Go.ChangeAt Go.RowKit Go.Joins
section
variable {H : Type} {enc : TypeId × Value → H} {P : Program}
def allRead (P : Program) (ts : List TypeId) : Bool := ts.all fun t => P.readableRec t && decide (t < P.types.size)
theorem trodAll_stays (hl : laidOutB P = true) {W W' : World} (hb : Below W.heap.size W W') : ∀ (ts : List TypeId) (vs : List Value) (ds : List (DataW H)) (ps : List MemPlace), allRead P ts = true →
    DataW.TrodAll enc P W 0 (fun _ => true) true ts vs ds ps → DataW.TrodAll enc P W' 0 (fun b => decide (b < W.heap.size)) true ts vs ds ps
  | [], vs, ds, ps, _, h => by
    obtain ⟨rfl, rfl, rfl⟩ := trodAll_nil h
    exact trodAll_mk0
  | t :: ts, vs, ds, ps, hr, h => by
    obtain ⟨v, vs', d, ds', p, q, rfl, rfl, rfl, h1, h2⟩ := trodAll_cons h
    have hr' : (P.readableRec t = true ∧ t < P.types.size) ∧ allRead P ts = true := by
      unfold allRead at hr
      simpa [List.all_cons, allRead] using hr
    have lt : ∀ x ∈ p, x.block < W.heap.size := by obtain ⟨m, hm⟩ := h1; exact DataW.trod_lt m _ _ _ hm
    exact trodAll_cons_mk (Below.trod hl hr'.1.1 hr'.1.2 h1 hb lt) (trodAll_stays hl hb ts vs' ds' q hr'.2 h2)
theorem var_stays {W W' : World} (hb : Below W.heap.size W W') {n : String} {g : Nat} {cs : Array Value} (hg : P.globalNamed n = some g) (h : W.var? P n = some cs) : W'.var? P n = some cs := by
  have hlt : g < W.heap.size := by
    simp only [World.var?, hg, Option.bind_some] at h
    cases hw : W.heap[g]? with
    | none => rw [hw] at h; simp at h
    | some o => exact (Array.getElem?_eq_some_iff.1 hw).1
  simp only [World.var?, hg, Option.bind_some] at h ⊢
  rw [hb.block g hlt]
  exact h
def varsRead (P : Program) (ns : List String) : Bool := ns.all fun n => match (P.globalNamed n).bind (fun g => (P.globals[g]?).map (·.type)) with | some t => P.readableRec t && decide (t < P.types.size) | none => false
theorem trodVars_stays (hl : laidOutB P = true) {W W' : World} (hb : Below W.heap.size W W') : ∀ (ns : List String) (gs : List (DataW H)) (ps : List MemPlace), varsRead P ns = true →
    DataW.TrodVars enc P W (fun _ => true) ns gs ps → DataW.TrodVars enc P W' (fun b => decide (b < W.heap.size)) ns gs ps
  | [], gs, ps, _, h => by
    obtain ⟨rfl, rfl⟩ := trodVars_none h
    exact rfl
  | n :: ns, [], ps, _, h => by cases h
  | n :: ns, d :: gs, ps, hr, h => by
    obtain ⟨g, t, cs, fuel, p, q, h1, h2, h3, h4, h5, rfl⟩ := h
    have hr' : (P.readableRec t = true ∧ t < P.types.size) ∧ varsRead P ns = true := by
      unfold varsRead at hr
      rw [List.all_cons, Bool.and_eq_true] at hr
      have h0 := hr.1
      rw [h1, Option.bind_some, h2] at h0
      simp only [Bool.and_eq_true, decide_eq_true_eq] at h0
      exact ⟨h0, hr.2⟩
    have lt : ∀ x ∈ p, x.block < W.heap.size := DataW.trod_lt fuel _ _ _ h4
    obtain ⟨fuel', h6⟩ := Below.trod hl hr'.1.1 hr'.1.2 (v := .agg cs) (d := d) (ps := p) ⟨fuel, h4⟩ hb lt
    exact ⟨g, t, cs, fuel', p, q, h1, h2, var_stays hb h1 h3, h6, trodVars_stays hl hb ns gs q hr'.2 h5, rfl⟩
theorem post_law {f : Func} {s : ChangeSpec} {W W' : World} {args : Array Value} {ds gs : List (DataW H)} {before : List MemPlace} {tb : TypeId} (hspec : s.fn H (ds ++ gs) = { results := [.lit (.bool true)], args := ds, vars := gs })
    (hl : laidOutB P = true) (hr : allRead P f.params.toList = true) (hv : varsRead P s.vars = true) (hres : f.resultTypes = #[tb]) (hbool : P.underlying tb = some .bool)
    (hW : DataW.Whole enc P f.params.toList s.vars false W args.toList ds gs before) (hb : Below W.heap.size W W') : s.post enc P f false true false false W args (.bool true) W' := by
  have hW' := hW
  obtain ⟨p, q, hA, hV, rfl, _, _⟩ := hW
  refine ⟨ds, gs, _, [], p, q, hW', ?_, ?_, ?_, hb.frame _, fun h => by cases h⟩
  · rw [hspec, hres]
    exact trodAll_mk1 (shut_bool hbool _)
  · rw [hspec]
    exact trodAll_stays hl hb _ _ _ _ hr hA
  · rw [hspec]
    exact trodVars_stays hl hb _ _ _ hv hV
end
end Go.Proofs.YtlgflddljhldhaaGreat.LiftL
end
section
namespace Go.Proofs.YtlgflddljhldhaaGreat.RepC
open Go.ChangeShapes Go.WideShapes Go.ChangeAt Go.RowKit Go.Joins Go.Deep RowC ValC
set_option linter.unusedVariables false
set_option maxRecDepth 100000
def Opn {α : Type} (E : Rp α) (t : TypeId) : Prop := ∀ {H : Type} (enc : TypeId × Value → H) (W : World) (fuel : Nat) (cs : List Value) (y : DataW H × List MemPlace), DataW.trod enc Tryz.prog W 0 (fun _ => true) true fuel t cs = some y → ∃ d, E.rd W W.heap.size d cs
theorem opn_int {t : TypeId} (ht : Tryz.prog.underlying t = some (.int .i64)) : Opn I t := fun enc W fuel cs y h => by
  obtain ⟨n, rfl, _, _⟩ := DataW.trod_int ht h
  exact ⟨n, rfl⟩
theorem add_addr (b o k : Nat) : (⟨b, o, none⟩ : Addr).add k = ⟨b, o + k, none⟩ := by
  unfold Addr.add; split
  · rename_i hz; rw [hz]; rfl
  · rfl
theorem opn_sl {α : Type} {E : Rp α} {t e : TypeId} (hE : Opn E e) (hp : 0 < E.size) (ht : Tryz.prog.underlying t = some (.slice e)) (hc : Tryz.prog.cellsOf e = E.size) : Opn (Sl E) t := fun enc W fuel cs y h => by
  rcases open_slice ht h with ⟨rfl, _⟩ | ⟨x, n, cap, m, k, D, Pl, rfl, _, hl, hm, hmm, _, hi⟩
  · exact ⟨[], none, 0, rfl, Nat.le_refl _, Nat.zero_le _, fun h => absurd h (Nat.lt_irrefl _)⟩
  · simp only [if_true] at hmm
    rw [hc] at hi
    have hone : ∀ i, i < n → ∃ d us, us.length = E.size ∧ (∀ j, j < E.size → W.cell? ((x.add (i * E.size)).add j) = us[j]?) ∧ E.rd W W.heap.size d us := fun i hin => by
      obtain ⟨us, h1, h2⟩ := hi i (by omega)
      obtain ⟨_, h3, h4⟩ := World.cells?_some h1
      obtain ⟨d, hd⟩ := hE enc W k us _ h2
      exact ⟨d, us, h3, h4, hd⟩
    by_cases hn : n = 0
    · subst hn
      exact ⟨[], some x, cap, rfl, hl, hm, fun h => absurd h (Nat.lt_irrefl _)⟩
    · obtain ⟨d0, us0, l0, c0, _⟩ := hone 0 (by omega)
      have e0 : (x.add (0 * E.size)).add 0 = x := by simp [Addr.add]
      have h0 := c0 0 hp
      rw [e0] at h0
      have hu : ∃ u, us0[0]? = some u := ⟨us0[0], List.getElem?_eq_getElem (by omega)⟩
      obtain ⟨u, hu⟩ := hu
      rw [hu] at h0
      have hsp : x.spot = none := by
        cases hs : x.spot with
        | none => rfl
        | some s => simp [World.cell?, hs] at h0; split at h0 <;> simp at h0
      obtain ⟨b, off, sp⟩ := x
      simp only at hsp
      subst hsp
      have hb := World.block_lt_of_cell? W ⟨b, off, none⟩ h0
      have hall : ∀ q, q ≤ n → ∃ L : List α, L.length = q ∧ ∀ i d, L[i]? = some d → ∃ us, CellsAt W b (off + i * E.size) us ∧ E.rd W W.heap.size d us := by
        intro q
        induction q with
        | zero => exact fun _ => ⟨[], rfl, fun i d hd => by simp at hd⟩
        | succ q ih =>
          intro hq
          obtain ⟨L, hL, hall⟩ := ih (by omega)
          obtain ⟨d, us, hus, hcs, hd⟩ := hone q (by omega)
          refine ⟨L ++ [d], by simp [hL], fun i z hz => ?_⟩
          by_cases hi : i < L.length
          · rw [List.getElem?_append_left hi] at hz
            exact hall i z hz
          · rw [List.getElem?_append_right (by omega)] at hz
            have hi2 : i = q := by
              have := (List.getElem?_eq_some_iff.1 hz).1
              simp at this
              omega
            subst hi2
            simp [hL] at hz
            subst hz
            refine ⟨us, fun j c hj => ?_, hd⟩
            have hj2 := (List.getElem?_eq_some_iff.1 hj).1
            have := hcs j (by omega)
            rw [add_addr, add_addr, hj] at this
            exact this
      obtain ⟨L, hL, hel⟩ := hall n (Nat.le_refl _)
      subst hL
      exact ⟨L, some ⟨b, off, none⟩, cap, rfl, hl, hm, fun _ => ⟨b, off, rfl, hb, hel⟩⟩
theorem fld {H : Type} {enc : TypeId × Value → H} {W : World} {n : Nat} {cs : List Value} {fs : Array Field} {xs : List (DataW H × List MemPlace)} (hf : ∀ (i : Nat) (f : Field), fs[i]? = some f → DataW.trod enc Tryz.prog W 0 (fun _ => true) true n f.type ((cs.drop f.offset).take (Tryz.prog.cellsOf f.type)) = xs[i]?)
    (i : Nat) (t o k : Nat) (h : fs[i]?.map (fun f => (f.type, f.offset)) = some (t, o)) (hc : Tryz.prog.cellsOf t = k) : DataW.trod enc Tryz.prog W 0 (fun _ => true) true n t ((cs.drop o).take k) = xs[i]? := by
  cases e : fs[i]? with
  | none => rw [e] at h; cases h
  | some f =>
    rw [e] at h
    simp only [Option.map_some, Option.some.injEq, Prod.mk.injEq] at h
    obtain ⟨rfl, rfl⟩ := h
    subst hc
    exact hf i f e
theorem open_st {α : Type} {E : Rp α} {t : TypeId} {fs : Array Field} (hO : Opn E t) (ht : Tryz.prog.underlying t = some (.struct fs)) {H : Type} {enc : TypeId × Value → H} {W : World} {base : Nat} {v : Value} {d : DataW H} {p : List MemPlace} (o : Value.okWide Tryz.prog W .any base t v)
    (h : DataW.Trod enc Tryz.prog W 0 (fun _ => true) true t v d p) : ∃ (x : α) (cs : List Value), v = .agg cs.toArray ∧ E.rd W W.heap.size x cs := by
  obtain ⟨cs, rfl, _⟩ := okWide_struct ht o
  obtain ⟨fuel, hf⟩ := h
  obtain ⟨x, hx⟩ := hO enc W fuel _ _ hf
  exact ⟨x, cs.toList, rfl, hx⟩
end Go.Proofs.YtlgflddljhldhaaGreat.RepC
end
section
namespace Go.Proofs.YtlgflddljhldhaaGreat.RepC
open Go.ChangeShapes Go.WideShapes Go.ChangeAt Go.RowKit Go.Joins Go.Deep RowC ValC
set_option linter.unusedVariables false
set_option maxRecDepth 100000
theorem c_int64 : Tryz.prog.cellsOf 2 = 1 := by kernel_rfl
theorem c_i64s : Tryz.prog.cellsOf 70 = 1 := by kernel_rfl
theorem c_Label : Tryz.prog.cellsOf 31 = 2 := by kernel_rfl
theorem opn_i64 : Opn I 2 := opn_int Tryz.underlying2
theorem opn_Label : Opn R_Label 31 := fun enc W fuel cs y h => by
  obtain ⟨xs, n, _, _, hl, hlen, hf⟩ := DataW.trod_struct Tryz.underlying31 h
  rw [c_Label] at hl
  match cs, hl with
  | [c0, c1], _ =>
    have e2 : xs.length = 2 := hlen
    match xs, e2 with
    | [y0, y1], _ =>
      have g0 := fld hf 0 2 0 1 rfl c_int64
      have g1 := fld hf 1 2 1 1 rfl c_int64
      obtain ⟨d0, h0⟩ := opn_i64 enc W n [c0] y0 g0
      obtain ⟨d1, h1⟩ := opn_i64 enc W n [c1] y1 g1
      exact ⟨(d0, d1), [c0], [c1], rfl, h0, h1⟩
theorem open_lab2 {H : Type} {enc : TypeId × Value → H} {W : World} {base : Nat} {v : Value} {d : DataW H} {p : List MemPlace} (o : Value.okWide Tryz.prog W .any base 31 v) (h : DataW.Trod enc Tryz.prog W 0 (fun _ => true) true 31 v d p) :
    ∃ l s : Int, v = .agg #[.int .i64 l, .int .i64 s] := by
  obtain ⟨⟨l, s⟩, cs, rfl, hr⟩ := open_st opn_Label Tryz.underlying31 o h
  obtain rfl := rd_Label hr
  exact ⟨l, s, rfl⟩
end Go.Proofs.YtlgflddljhldhaaGreat.RepC
end
section
namespace Go.Proofs.YtlgflddljhldhaaGreat.RepC
open Go.ChangeShapes Go.WideShapes Go.ChangeAt Go.RowKit Go.Joins Go.Deep RowC ValC
set_option linter.unusedVariables false
set_option maxRecDepth 100000
theorem c_LabelS : Tryz.prog.cellsOf 113 = 1 := by kernel_rfl
theorem c_LabelSS : Tryz.prog.cellsOf 22 = 1 := by kernel_rfl
theorem opn_LabelS : Opn (Sl R_Label) 113 := opn_sl opn_Label (by decide) Tryz.underlying113 c_Label
theorem opn_LabelSS : Opn (Sl (Sl R_Label)) 22 := opn_sl opn_LabelS (by decide) Tryz.underlying22 c_LabelS
end Go.Proofs.YtlgflddljhldhaaGreat.RepC
end
section
namespace Go.Proofs.YtlgflddljhldhaaGreat.RepC
open Go.RowKit RowC ValC
set_option linter.unusedVariables false
set_option linter.unusedSimpArgs false
theorem gsz_Config {d : D_Config} {cs : List Value} {W : World} {l : Int} (h0 : 0 ≤ l) (h1 : l ≤ 1048576) (h : R_Config.rd W W.heap.size d cs) : Calls Tryz.prog 8 #[.agg cs.toArray, .int .i64 l] W (SzC l (R_Config.sz d) W) := by
  obtain ⟨L0, L1, L2, x3⟩ := d
  obtain ⟨a0, c0, a1, c1, a2, c2, rfl, k_L0, k_L1, k_L2⟩ := rd_Config h
  exact sz_Config h0 h1 k_L0 k_L1 k_L2
theorem gto_Config {d : D_Config} {cs : List Value} {W : World} (hsz : R_Config.sz d ≤ 1048576) (h : R_Config.rd W W.heap.size d cs) : Calls Tryz.prog 11 #[.agg cs.toArray] W (NewV R_Config d W) := by
  obtain ⟨L0, L1, L2, x3⟩ := d
  obtain ⟨a0, c0, a1, c1, a2, c2, rfl, k_L0, k_L1, k_L2⟩ := rd_Config h
  exact to_Config hsz k_L0 k_L1 k_L2
theorem geq_Config {d : D_Config} {cs cs' : List Value} {W : World} (h : R_Config.rd W W.heap.size d cs) (h' : R_Config.rd W W.heap.size d cs') : Calls Tryz.prog 16 #[.agg cs.toArray, .agg cs'.toArray] W (IsB true W) := by
  obtain ⟨L0, L1, L2, x3⟩ := d
  obtain ⟨a0, c0, a1, c1, a2, c2, rfl, k_L0, k_L1, k_L2⟩ := rd_Config h
  obtain ⟨a0', c0', a1', c1', a2', c2', rfl, k'_L0, k'_L1, k'_L2⟩ := rd_Config h'
  exact eq_Config k_L0 k_L1 k_L2 k'_L0 k'_L1 k'_L2
theorem owc_Config {W : World} {S : Nat → Prop} {L0 : List (List (D_Label))} {L1 : List (D_Pair)} {L2 : List (D_Quota)} {x3 : Int} {cs : List Value} (h : R_Config.ow W S (L0, L1, L2, x3) cs) : ∃ a0 c0 a1 c1 a2 c2, cs = [.slice a0 L0.length c0, .slice a1 L1.length c1, .slice a2 L2.length c2, .int .i64 x3] ∧ R_Config.ow W S (L0, L1, L2, x3) [.slice a0 L0.length c0, .slice a1 L1.length c1, .slice a2 L2.length c2, .int .i64 x3] := by
  have h0 := h
  obtain ⟨a0, c0, a1, c1, a2, c2, T0, T1, T2, rfl, _⟩ := ow_Config h
  exact ⟨a0, c0, a1, c1, a2, c2, rfl, h0⟩
theorem rdc_Config {W : World} {B : Nat} {L0 : List (List (D_Label))} {L1 : List (D_Pair)} {L2 : List (D_Quota)} {x3 : Int} {cs : List Value} (h : R_Config.rd W B (L0, L1, L2, x3) cs) : ∃ a0 c0 a1 c1 a2 c2, cs = [.slice a0 L0.length c0, .slice a1 L1.length c1, .slice a2 L2.length c2, .int .i64 x3] ∧ R_Config.rd W B (L0, L1, L2, x3) [.slice a0 L0.length c0, .slice a1 L1.length c1, .slice a2 L2.length c2, .int .i64 x3] := by
  have h0 := h
  obtain ⟨a0, c0, a1, c1, a2, c2, rfl, _⟩ := rd_Config h
  exact ⟨a0, c0, a1, c1, a2, c2, rfl, h0⟩
theorem cvd_Config {L0 : List (List (D_Label))} {L1 : List (D_Pair)} {L2 : List (D_Quota)} {x3 : Int} : R_Config.cv (L0, L1, L2, x3) = sumL ((Sl R_Label)).cm L0 + sumL (R_Pair).cm L1 + sumL (R_Quota).cm L2 := by
  simp only [R_Config, Pr, Sl, I, Bo, atom]; omega
end Go.Proofs.YtlgflddljhldhaaGreat.RepC
end
section
namespace Go.Proofs.YtlgflddljhldhaaGreat.RepC
open Go.RowKit RowC ValC Go.ChangeShapes
set_option maxRecDepth 100000
set_option linter.unusedVariables false
set_option linter.unusedSimpArgs false
theorem c_Pair : Tryz.prog.cellsOf 123 = 5 := by kernel_rfl
theorem opn_Pair : Opn R_Pair 123 := fun enc W fuel cs y h => by
  obtain ⟨xs, n, _, _, hl, hlen, hf⟩ := DataW.trod_struct Tryz.underlying123 h
  rw [c_Pair] at hl
  match cs, hl with
  | [c0, c1, c2, c3, c4], _ =>
    have e2 : xs.length = 3 := hlen
    match xs, e2 with
    | [y0, y1, y2], _ =>
      have g0 := fld hf 0 31 0 2 rfl c_Label
      have g1 := fld hf 1 31 2 2 rfl c_Label
      have g2 := fld hf 2 2 4 1 rfl c_int64
      obtain ⟨d0, h0⟩ := opn_Label enc W n [c0, c1] y0 g0
      obtain ⟨d1, h1⟩ := opn_Label enc W n [c2, c3] y1 g1
      obtain ⟨d2, h2⟩ := opn_i64 enc W n [c4] y2 g2
      exact ⟨(d0, d1, d2), ⟨[c0, c1], [c2, c3, c4], rfl, h0, ⟨[c2, c3], [c4], rfl, h1, h2⟩⟩⟩
theorem c_PairS : Tryz.prog.cellsOf 23 = 1 := by kernel_rfl
theorem opn_PairS : Opn (Sl R_Pair) 23 := opn_sl opn_Pair (by decide) Tryz.underlying23 c_Pair
theorem c_Quota : Tryz.prog.cellsOf 128 = 3 := by kernel_rfl
theorem opn_Quota : Opn R_Quota 128 := fun enc W fuel cs y h => by
  obtain ⟨xs, n, _, _, hl, hlen, hf⟩ := DataW.trod_struct Tryz.underlying128 h
  rw [c_Quota] at hl
  match cs, hl with
  | [c0, c1, c2], _ =>
    have e2 : xs.length = 2 := hlen
    match xs, e2 with
    | [y0, y1], _ =>
      have g0 := fld hf 0 31 0 2 rfl c_Label
      have g1 := fld hf 1 2 2 1 rfl c_int64
      obtain ⟨d0, h0⟩ := opn_Label enc W n [c0, c1] y0 g0
      obtain ⟨d1, h1⟩ := opn_i64 enc W n [c2] y1 g1
      exact ⟨(d0, d1), ⟨[c0, c1], [c2], rfl, h0, h1⟩⟩
theorem c_QuotaS : Tryz.prog.cellsOf 24 = 1 := by kernel_rfl
theorem opn_QuotaS : Opn (Sl R_Quota) 24 := opn_sl opn_Quota (by decide) Tryz.underlying24 c_Quota
theorem c_Config : Tryz.prog.cellsOf 26 = 4 := by kernel_rfl
theorem opn_Config : Opn R_Config 26 := fun enc W fuel cs y h => by
  obtain ⟨xs, n, _, _, hl, hlen, hf⟩ := DataW.trod_struct Tryz.underlying26 h
  rw [c_Config] at hl
  match cs, hl with
  | [c0, c1, c2, c3], _ =>
    have e2 : xs.length = 4 := hlen
    match xs, e2 with
    | [y0, y1, y2, y3], _ =>
      have g0 := fld hf 0 22 0 1 rfl c_LabelSS
      have g1 := fld hf 1 23 1 1 rfl c_PairS
      have g2 := fld hf 2 24 2 1 rfl c_QuotaS
      have g3 := fld hf 3 2 3 1 rfl c_int64
      obtain ⟨d0, h0⟩ := opn_LabelSS enc W n [c0] y0 g0
      obtain ⟨d1, h1⟩ := opn_PairS enc W n [c1] y1 g1
      obtain ⟨d2, h2⟩ := opn_QuotaS enc W n [c2] y2 g2
      obtain ⟨d3, h3⟩ := opn_i64 enc W n [c3] y3 g3
      exact ⟨(d0, d1, d2, d3), ⟨[c0], [c1, c2, c3], rfl, h0, ⟨[c1], [c2, c3], rfl, h1, ⟨[c2], [c3], rfl, h2, h3⟩⟩⟩⟩
theorem open_Config {H : Type} {enc : TypeId × Value → H} {W : World} {base : Nat} {v : Value} {d : DataW H} {p : List MemPlace} (o : Value.okWide Tryz.prog W .any base 26 v) (h : DataW.Trod enc Tryz.prog W 0 (fun _ => true) true 26 v d p) :
    ∃ (L0 : List (List (D_Label))) (L1 : List (D_Pair)) (L2 : List (D_Quota)) (x3 : Int) (a0 : Option Addr) (c0 : Nat) (a1 : Option Addr) (c1 : Nat) (a2 : Option Addr) (c2 : Nat), v = .agg #[.slice a0 L0.length c0, .slice a1 L1.length c1, .slice a2 L2.length c2, .int .i64 x3] ∧ R_Config.rd W W.heap.size (L0, L1, L2, x3) [.slice a0 L0.length c0, .slice a1 L1.length c1, .slice a2 L2.length c2, .int .i64 x3] := by
  obtain ⟨⟨L0, L1, L2, x3⟩, cs, rfl, hr⟩ := open_st opn_Config Tryz.underlying26 o h
  obtain ⟨a0, c0, a1, c1, a2, c2, rfl, h0⟩ := rdc_Config hr
  exact ⟨L0, L1, L2, x3, a0, c0, a1, c1, a2, c2, rfl, h0⟩
end Go.Proofs.YtlgflddljhldhaaGreat.RepC
end
section
namespace Go.Proofs.YtlgflddljhldhaaGreat.RepC
open Go.RowKit RowC ValC
theorem eql_lab (y0 y1 x0 x1 : Int) (b : Bool) (hb : decide (((y0, y1) : Int × Int) = (x0, x1)) = b) : ∀ w, (binOp .eql 47 (.agg #[.int .i64 y0, .int .i64 y1]) (.agg #[.int .i64 x0, .int .i64 x1])).run Tryz.prog w = .ok (.bool b) w := by
  intro w
  subst hb
  go_simp
  repeat' split
  all_goals simp_all
theorem neq_lab (y0 y1 x0 x1 : Int) (b : Bool) (hb : decide (((y0, y1) : Int × Int) = (x0, x1)) = b) : ∀ w, (binOp .neq 47 (.agg #[.int .i64 y0, .int .i64 y1]) (.agg #[.int .i64 x0, .int .i64 x1])).run Tryz.prog w = .ok (.bool (!b)) w := by
  intro w
  subst hb
  go_simp
  repeat' split
  all_goals simp_all
end Go.Proofs.YtlgflddljhldhaaGreat.RepC
end
