/- The laws' data: contracts. -/
import Derived.Test.YtknifggpodhhdaaDoorJobO
import Derived.Test.YtknifggpodhhdaaDoorDeskG
namespace Go.Proofs.YtknifggpodhhdaaDoor.RepC
open Go.ChangeShapes Go.WideShapes Go.ChangeAt Go.RowKit Go.Joins Go.Deep RowC ValC
set_option maxRecDepth 100000
set_option linter.unusedVariables false
set_option linter.unusedSimpArgs false

theorem c_Letter : Tryd.prog.cellsOf 126 = 6 := by kernel_rfl
theorem opn_Letter : Opn R_Letter 126 := fun enc W fuel cs y h => by
  obtain ⟨xs, n, _, _, hl, hlen, hf⟩ := DataW.trod_struct Tryd.underlying126 h
  rw [c_Letter] at hl
  match cs, hl with
  | [c0, c1, c2, c3, c4, c5], _ =>
    have e2 : xs.length = 4 := hlen
    match xs, e2 with
    | [y0, y1, y2, y3], _ =>
      have g0 := fld hf 0 61 0 2 rfl c_Label
      have g1 := fld hf 1 61 2 2 rfl c_Label
      have g2 := fld hf 2 2 4 1 rfl c_int64
      have g3 := fld hf 3 2 5 1 rfl c_int64
      obtain ⟨d0, h0⟩ := opn_Label enc W n [c0, c1] y0 g0
      obtain ⟨d1, h1⟩ := opn_Label enc W n [c2, c3] y1 g1
      obtain ⟨d2, h2⟩ := opn_i64 enc W n [c4] y2 g2
      obtain ⟨d3, h3⟩ := opn_i64 enc W n [c5] y3 g3
      exact ⟨(d0, d1, d2, d3), ⟨[c0, c1], [c2, c3, c4, c5], rfl, h0, ⟨[c2, c3], [c4, c5], rfl, h1, ⟨[c4], [c5], rfl, h2, h3⟩⟩⟩⟩
theorem open_Letter {H : Type} {enc : TypeId × Value → H} {W : World} {base : Nat} {v : Value} {d : DataW H} {p : List MemPlace} (o : Value.okWide Tryd.prog W .any base 126 v) (h : DataW.Trod enc Tryd.prog W 0 (fun _ => true) true 126 v d p) :
    ∃ (x0 : Int) (x1 : Int) (x2 : Int) (x3 : Int) (x4 : Int) (x5 : Int), v = .agg #[.int .i64 x0, .int .i64 x1, .int .i64 x2, .int .i64 x3, .int .i64 x4, .int .i64 x5] ∧ R_Letter.rd W W.heap.size ((x0, x1), (x2, x3), x4, x5) [.int .i64 x0, .int .i64 x1, .int .i64 x2, .int .i64 x3, .int .i64 x4, .int .i64 x5] := by
  obtain ⟨⟨⟨x0, x1⟩, ⟨x2, x3⟩, x4, x5⟩, cs, rfl, hr⟩ := open_st opn_Letter Tryd.underlying126 o h
  obtain rfl := rd_Letter hr
  exact ⟨x0, x1, x2, x3, x4, x5, rfl, hr⟩

theorem c_LetterS : Tryd.prog.cellsOf 58 = 1 := by kernel_rfl
theorem opn_LetterS : Opn (Sl R_Letter) 58 := opn_sl opn_Letter (by decide) Tryd.underlying58 c_Letter

theorem c_Desk : Tryd.prog.cellsOf 60 = 5 := by kernel_rfl
theorem opn_Desk : Opn R_Desk 60 := fun enc W fuel cs y h => by
  obtain ⟨xs, n, _, _, hl, hlen, hf⟩ := DataW.trod_struct Tryd.underlying60 h
  rw [c_Desk] at hl
  match cs, hl with
  | [c0, c1, c2, c3, c4], _ =>
    have e2 : xs.length = 5 := hlen
    match xs, e2 with
    | [y0, y1, y2, y3, y4], _ =>
      have g0 := fld hf 0 58 0 1 rfl c_LetterS
      have g1 := fld hf 1 58 1 1 rfl c_LetterS
      have g2 := fld hf 2 58 2 1 rfl c_LetterS
      have g3 := fld hf 3 2 3 1 rfl c_int64
      have g4 := fld hf 4 2 4 1 rfl c_int64
      obtain ⟨d0, h0⟩ := opn_LetterS enc W n [c0] y0 g0
      obtain ⟨d1, h1⟩ := opn_LetterS enc W n [c1] y1 g1
      obtain ⟨d2, h2⟩ := opn_LetterS enc W n [c2] y2 g2
      obtain ⟨d3, h3⟩ := opn_i64 enc W n [c3] y3 g3
      obtain ⟨d4, h4⟩ := opn_i64 enc W n [c4] y4 g4
      exact ⟨(d0, d1, d2, d3, d4), ⟨[c0], [c1, c2, c3, c4], rfl, h0, ⟨[c1], [c2, c3, c4], rfl, h1, ⟨[c2], [c3, c4], rfl, h2, ⟨[c3], [c4], rfl, h3, h4⟩⟩⟩⟩⟩
theorem open_Desk {H : Type} {enc : TypeId × Value → H} {W : World} {base : Nat} {v : Value} {d : DataW H} {p : List MemPlace} (o : Value.okWide Tryd.prog W .any base 60 v) (h : DataW.Trod enc Tryd.prog W 0 (fun _ => true) true 60 v d p) :
    ∃ (L0 : List (D_Letter)) (L1 : List (D_Letter)) (L2 : List (D_Letter)) (x3 : Int) (x4 : Int) (a0 : Option Addr) (c0 : Nat) (a1 : Option Addr) (c1 : Nat) (a2 : Option Addr) (c2 : Nat), v = .agg #[.slice a0 L0.length c0, .slice a1 L1.length c1, .slice a2 L2.length c2, .int .i64 x3, .int .i64 x4] ∧ R_Desk.rd W W.heap.size (L0, L1, L2, x3, x4) [.slice a0 L0.length c0, .slice a1 L1.length c1, .slice a2 L2.length c2, .int .i64 x3, .int .i64 x4] := by
  obtain ⟨⟨L0, L1, L2, x3, x4⟩, cs, rfl, hr⟩ := open_st opn_Desk Tryd.underlying60 o h
  obtain ⟨a0, c0, a1, c1, a2, c2, rfl, h0⟩ := rdc_Desk hr
  exact ⟨L0, L1, L2, x3, x4, a0, c0, a1, c1, a2, c2, rfl, h0⟩

end Go.Proofs.YtknifggpodhhdaaDoor.RepC
