/- Jobs that came in, opened. -/
import Derived.Test.YtfmgjkmlnaeagaaOpn
import Derived.Test.YtfmgjkmlnaeagaaJobT
namespace Go.Proofs.Ytfmgjkmlnaeagaa.RepC
open Go.ChangeShapes Go.WideShapes Go.ChangeAt Go.RowKit Go.Joins Go.Deep RowC ValC
set_option linter.unusedVariables false
set_option maxRecDepth 100000

theorem c_int64 : Try.prog.cellsOf 2 = 1 := by kernel_rfl
theorem c_i64s : Try.prog.cellsOf 24 = 1 := by kernel_rfl
theorem c_Label : Try.prog.cellsOf 23 = 2 := by kernel_rfl
theorem c_Job : Try.prog.cellsOf 26 = 9 := by kernel_rfl
theorem opn_i64 : Opn I 2 := opn_int Try.underlying2
theorem opn_i64s : Opn (Sl I) 24 := opn_sl opn_i64 (by decide) Try.underlying24 c_int64
theorem opn_Label : Opn R_Label 23 := fun enc W fuel cs y h => by
  obtain ⟨xs, n, _, _, hl, hlen, hf⟩ := DataW.trod_struct Try.underlying23 h
  rw [c_Label] at hl
  match cs, hl with
  | [c0, c1], _ =>
    have e2 : xs.length = 2 := hlen
    match xs, e2 with
    | [y0, y1], _ =>
      have g0 := fld hf 0 2 0 1 rfl c_int64
      have g1 := fld hf 1 2 1 1 rfl c_int64
      obtain ⟨d0, h0⟩ := opn_i64 enc W n [c0] y0 g0
      obtain ⟨d1, h1⟩ := opn_i64 enc W n [c1] y1 g1
      exact ⟨(d0, d1), [c0], [c1], rfl, h0, h1⟩
theorem opn_Job : Opn R_Job 26 := fun enc W fuel cs y h => by
  obtain ⟨xs, n, _, _, hl, hlen, hf⟩ := DataW.trod_struct Try.underlying26 h
  rw [c_Job] at hl
  match cs, hl with
  | [c0, c1, c2, c3, c4, c5, c6, c7, c8], _ =>
    have e2 : xs.length = 8 := hlen
    match xs, e2 with
    | [y0, y1, y2, y3, y4, y5, y6, y7], _ =>
      have g0 := fld hf 0 23 0 2 rfl c_Label
      have g1 := fld hf 1 2 2 1 rfl c_int64
      have g2 := fld hf 2 2 3 1 rfl c_int64
      have g3 := fld hf 3 2 4 1 rfl c_int64
      have g4 := fld hf 4 2 5 1 rfl c_int64
      have g5 := fld hf 5 2 6 1 rfl c_int64
      have g6 := fld hf 6 2 7 1 rfl c_int64
      have g7 := fld hf 7 24 8 1 rfl c_i64s
      obtain ⟨d0, h0⟩ := opn_Label enc W n [c0, c1] y0 g0
      obtain ⟨d1, h1⟩ := opn_i64 enc W n [c2] y1 g1
      obtain ⟨d2, h2⟩ := opn_i64 enc W n [c3] y2 g2
      obtain ⟨d3, h3⟩ := opn_i64 enc W n [c4] y3 g3
      obtain ⟨d4, h4⟩ := opn_i64 enc W n [c5] y4 g4
      obtain ⟨d5, h5⟩ := opn_i64 enc W n [c6] y5 g5
      obtain ⟨d6, h6⟩ := opn_i64 enc W n [c7] y6 g6
      obtain ⟨d7, h7⟩ := opn_i64s enc W n [c8] y7 g7
      exact ⟨(d0, d1, d2, d3, d4, d5, d6, d7), [c0, c1], [c2, c3, c4, c5, c6, c7, c8], rfl, h0, [c2], [c3, c4, c5, c6, c7, c8], rfl, h1, [c3], [c4, c5, c6, c7, c8], rfl, h2, [c4], [c5, c6, c7, c8], rfl, h3, [c5], [c6, c7, c8], rfl, h4, [c6], [c7, c8], rfl, h5, [c7], [c8], rfl, h6, h7⟩
theorem opn_JobS : Opn (Sl R_Job) 35 := opn_sl opn_Job (by decide) Try.underlying35 c_Job

theorem open_lab2 {H : Type} {enc : TypeId × Value → H} {W : World} {base : Nat} {v : Value} {d : DataW H} {p : List MemPlace} (o : Value.okWide Try.prog W .any base 23 v) (h : DataW.Trod enc Try.prog W 0 (fun _ => true) true 23 v d p) :
    ∃ l s : Int, v = .agg #[.int .i64 l, .int .i64 s] := by
  obtain ⟨⟨l, s⟩, cs, rfl, hr⟩ := open_st opn_Label Try.underlying23 o h
  obtain rfl := rd_Label hr
  exact ⟨l, s, rfl⟩
theorem open_job {H : Type} {enc : TypeId × Value → H} {W : World} {base : Nat} {v : Value} {d : DataW H} {p : List MemPlace} (o : Value.okWide Try.prog W .any base 26 v) (h : DataW.Trod enc Try.prog W 0 (fun _ => true) true 26 v d p) :
    ∃ (x0 x1 x2 x3 x4 x5 x6 x7 : Int) (L : List Int) (a : Option Addr) (c : Nat), v = .agg #[.int .i64 x0, .int .i64 x1, .int .i64 x2, .int .i64 x3, .int .i64 x4, .int .i64 x5, .int .i64 x6, .int .i64 x7, .slice a L.length c] ∧ RdSl I W W.heap.size L a c := by
  obtain ⟨⟨⟨x0, x1⟩, x2, x3, x4, x5, x6, x7, L⟩, cs, rfl, hr⟩ := open_st opn_Job Try.underlying26 o h
  obtain ⟨a, c, rfl, hs⟩ := rd_Job hr
  exact ⟨x0, x1, x2, x3, x4, x5, x6, x7, L, a, c, rfl, hs⟩
theorem open_jobs {H : Type} {enc : TypeId × Value → H} {W : World} {base : Nat} {v : Value} {d : DataW H} {p : List MemPlace} (o : Value.okWide Try.prog W .any base 35 v) (h : DataW.Trod enc Try.prog W 0 (fun _ => true) true 35 v d p) :
    ∃ (L : List D_Job) (a : Option Addr) (cap : Nat), v = .slice a L.length cap ∧ RdSl R_Job W W.heap.size L a cap := open_sl opn_JobS Try.underlying35 o h
end Go.Proofs.Ytfmgjkmlnaeagaa.RepC
