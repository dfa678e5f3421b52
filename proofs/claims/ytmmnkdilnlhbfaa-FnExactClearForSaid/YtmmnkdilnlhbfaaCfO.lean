/- The laws' data: contracts. -/
import Derived.Test.YtmmnkdilnlhbfaaJobO
import Derived.Test.YtmmnkdilnlhbfaaPlOpn
import Derived.Test.YtmmnkdilnlhbfaaCfG
namespace Go.Proofs.Ytmmnkdilnlhbfaa.RepC
open Go.RowKit RowC ValC Go.ChangeShapes
set_option maxRecDepth 100000
set_option linter.unusedVariables false
set_option linter.unusedSimpArgs false

theorem c_Pair : Try.prog.cellsOf 108 = 5 := by kernel_rfl
theorem opn_Pair : Opn R_Pair 108 := fun enc W fuel cs y h => by
  obtain ⟨xs, n, _, _, hl, hlen, hf⟩ := DataW.trod_struct Try.underlying108 h
  rw [c_Pair] at hl
  match cs, hl with
  | [c0, c1, c2, c3, c4], _ =>
    have e2 : xs.length = 3 := hlen
    match xs, e2 with
    | [y0, y1, y2], _ =>
      have g0 := fld hf 0 28 0 2 rfl c_Label
      have g1 := fld hf 1 28 2 2 rfl c_Label
      have g2 := fld hf 2 2 4 1 rfl c_int64
      obtain ⟨d0, h0⟩ := opn_Label enc W n [c0, c1] y0 g0
      obtain ⟨d1, h1⟩ := opn_Label enc W n [c2, c3] y1 g1
      obtain ⟨d2, h2⟩ := opn_i64 enc W n [c4] y2 g2
      exact ⟨(d0, d1, d2), ⟨[c0, c1], [c2, c3, c4], rfl, h0, ⟨[c2, c3], [c4], rfl, h1, h2⟩⟩⟩
theorem open_Pair {H : Type} {enc : TypeId × Value → H} {W : World} {base : Nat} {v : Value} {d : DataW H} {p : List MemPlace} (o : Value.okWide Try.prog W .any base 108 v) (h : DataW.Trod enc Try.prog W 0 (fun _ => true) true 108 v d p) :
    ∃ (x0 : Int) (x1 : Int) (x2 : Int) (x3 : Int) (x4 : Int), v = .agg #[.int .i64 x0, .int .i64 x1, .int .i64 x2, .int .i64 x3, .int .i64 x4] ∧ R_Pair.rd W W.heap.size ((x0, x1), (x2, x3), x4) [.int .i64 x0, .int .i64 x1, .int .i64 x2, .int .i64 x3, .int .i64 x4] := by
  obtain ⟨⟨⟨x0, x1⟩, ⟨x2, x3⟩, x4⟩, cs, rfl, hr⟩ := open_st opn_Pair Try.underlying108 o h
  obtain rfl := rd_Pair hr
  exact ⟨x0, x1, x2, x3, x4, rfl, hr⟩

theorem c_PairS : Try.prog.cellsOf 23 = 1 := by kernel_rfl
theorem opn_PairS : Opn (Sl R_Pair) 23 := opn_sl opn_Pair (by decide) Try.underlying23 c_Pair

theorem c_Quota : Try.prog.cellsOf 111 = 3 := by kernel_rfl
theorem opn_Quota : Opn R_Quota 111 := fun enc W fuel cs y h => by
  obtain ⟨xs, n, _, _, hl, hlen, hf⟩ := DataW.trod_struct Try.underlying111 h
  rw [c_Quota] at hl
  match cs, hl with
  | [c0, c1, c2], _ =>
    have e2 : xs.length = 2 := hlen
    match xs, e2 with
    | [y0, y1], _ =>
      have g0 := fld hf 0 28 0 2 rfl c_Label
      have g1 := fld hf 1 2 2 1 rfl c_int64
      obtain ⟨d0, h0⟩ := opn_Label enc W n [c0, c1] y0 g0
      obtain ⟨d1, h1⟩ := opn_i64 enc W n [c2] y1 g1
      exact ⟨(d0, d1), ⟨[c0, c1], [c2], rfl, h0, h1⟩⟩
theorem open_Quota {H : Type} {enc : TypeId × Value → H} {W : World} {base : Nat} {v : Value} {d : DataW H} {p : List MemPlace} (o : Value.okWide Try.prog W .any base 111 v) (h : DataW.Trod enc Try.prog W 0 (fun _ => true) true 111 v d p) :
    ∃ (x0 : Int) (x1 : Int) (x2 : Int), v = .agg #[.int .i64 x0, .int .i64 x1, .int .i64 x2] ∧ R_Quota.rd W W.heap.size ((x0, x1), x2) [.int .i64 x0, .int .i64 x1, .int .i64 x2] := by
  obtain ⟨⟨⟨x0, x1⟩, x2⟩, cs, rfl, hr⟩ := open_st opn_Quota Try.underlying111 o h
  obtain rfl := rd_Quota hr
  exact ⟨x0, x1, x2, rfl, hr⟩

theorem c_QuotaS : Try.prog.cellsOf 24 = 1 := by kernel_rfl
theorem opn_QuotaS : Opn (Sl R_Quota) 24 := opn_sl opn_Quota (by decide) Try.underlying24 c_Quota

theorem c_Config : Try.prog.cellsOf 26 = 4 := by kernel_rfl
theorem opn_Config : Opn R_Config 26 := fun enc W fuel cs y h => by
  obtain ⟨xs, n, _, _, hl, hlen, hf⟩ := DataW.trod_struct Try.underlying26 h
  rw [c_Config] at hl
  match cs, hl with
  | [c0, c1, c2, c3], _ =>
    have e2 : xs.length = 4 := hlen
    match xs, e2 with
    | [y0, y1, y2, y3], _ =>
      have g0 := fld hf 0 22 0 1 rfl c_LabelSS
      have g1 := fld hf 1 23 1 1 rfl c_PairS
      have g2 := fld hf 2 24 2 1 rfl c_QuotaS
      have g3 := fld hf 3 2 3 1 rfl c_int64
      obtain ⟨d0, h0⟩ := opn_LabelSS enc W n [c0] y0 g0
      obtain ⟨d1, h1⟩ := opn_PairS enc W n [c1] y1 g1
      obtain ⟨d2, h2⟩ := opn_QuotaS enc W n [c2] y2 g2
      obtain ⟨d3, h3⟩ := opn_i64 enc W n [c3] y3 g3
      exact ⟨(d0, d1, d2, d3), ⟨[c0], [c1, c2, c3], rfl, h0, ⟨[c1], [c2, c3], rfl, h1, ⟨[c2], [c3], rfl, h2, h3⟩⟩⟩⟩
theorem open_Config {H : Type} {enc : TypeId × Value → H} {W : World} {base : Nat} {v : Value} {d : DataW H} {p : List MemPlace} (o : Value.okWide Try.prog W .any base 26 v) (h : DataW.Trod enc Try.prog W 0 (fun _ => true) true 26 v d p) :
    ∃ (L0 : List (List (D_Label))) (L1 : List (D_Pair)) (L2 : List (D_Quota)) (x3 : Int) (a0 : Option Addr) (c0 : Nat) (a1 : Option Addr) (c1 : Nat) (a2 : Option Addr) (c2 : Nat), v = .agg #[.slice a0 L0.length c0, .slice a1 L1.length c1, .slice a2 L2.length c2, .int .i64 x3] ∧ R_Config.rd W W.heap.size (L0, L1, L2, x3) [.slice a0 L0.length c0, .slice a1 L1.length c1, .slice a2 L2.length c2, .int .i64 x3] := by
  obtain ⟨⟨L0, L1, L2, x3⟩, cs, rfl, hr⟩ := open_st opn_Config Try.underlying26 o h
  obtain ⟨a0, c0, a1, c1, a2, c2, rfl, h0⟩ := rdc_Config hr
  exact ⟨L0, L1, L2, x3, a0, c0, a1, c1, a2, c2, rfl, h0⟩

end Go.Proofs.Ytmmnkdilnlhbfaa.RepC
