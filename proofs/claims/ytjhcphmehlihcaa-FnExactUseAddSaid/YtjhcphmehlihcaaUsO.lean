/- The laws' data: contracts. -/
import Derived.Test.YtjhcphmehlihcaaJobO
import Derived.Test.YtjhcphmehlihcaaUsT
namespace Go.Proofs.Ytjhcphmehlihcaa.RepC
open Go.ChangeShapes Go.WideShapes Go.ChangeAt Go.RowKit Go.Joins Go.Deep RowC ValC
set_option maxRecDepth 100000
set_option linter.unusedVariables false
set_option linter.unusedSimpArgs false

theorem c_String : Try.prog.cellsOf 9 = 1 := by kernel_rfl
theorem opn_String : Opn St 9 := fun enc W fuel cs y h => by
  obtain ⟨s, rfl, _, hw⟩ := DataW.trod_string Try.underlying9 h
  exact ⟨s, rfl, hw⟩
theorem open_n64 {H : Type} {enc : TypeId × Value → H} {W : World} {base : Nat} {v : Value} {d : DataW H} {p : List MemPlace} (o : Value.okWide Try.prog W .any base 2 v) (h : DataW.Trod enc Try.prog W 0 (fun _ => true) true 2 v d p) : ∃ q : Int, v = .int .i64 q := by
  obtain ⟨a0, rfl, rfl, rfl, w0⟩ := open_int Try.underlying2 o h
  exact ⟨a0, rfl⟩
theorem open_str {H : Type} {enc : TypeId × Value → H} {W : World} {base : Nat} {v : Value} {d : DataW H} {p : List MemPlace} (o : Value.okWide Try.prog W .any base 9 v) (h : DataW.Trod enc Try.prog W 0 (fun _ => true) true 9 v d p) : ∃ s : ByteArray, v = .string s ∧ s.size ≤ maxLen := by
  obtain ⟨t, rfl, _, _, ht⟩ := Go.ChangeMaps.open_string Try.underlying9 o h
  exact ⟨t, rfl, ht⟩
theorem open_labw {H : Type} {enc : TypeId × Value → H} {W : World} {base : Nat} {v : Value} {d : DataW H} {p : List MemPlace} (o : Value.okWide Try.prog W .any base 44 v) (h : DataW.Trod enc Try.prog W 0 (fun _ => true) true 44 v d p) :
    ∃ l s : Int, v = .agg #[.int .i64 l, .int .i64 s] ∧ (Lit.int .i64 l).wf = true ∧ (Lit.int .i64 s).wf = true := by
  obtain ⟨cs, rfl, hsz⟩ := okWide_struct Try.underlying44 o
  obtain ⟨fuel, hf⟩ := h
  obtain ⟨xs, n, _, _, hl, hlen, hf⟩ := DataW.trod_struct Try.underlying44 hf
  rw [c_Label] at hl
  obtain ⟨ls⟩ := cs
  match ls, hl with
  | [c0, c1], _ =>
    have e2 : xs.length = 2 := hlen
    match xs, e2 with
    | [z0, z1], _ =>
      have g0 := fld hf 0 2 0 1 rfl c_int64
      have g1 := fld hf 1 2 1 1 rfl c_int64
      obtain ⟨l, e0, _, w0⟩ := DataW.trod_int Try.underlying2 g0
      obtain ⟨s, e1, _, w1⟩ := DataW.trod_int Try.underlying2 g1
      obtain rfl : c0 = _ := by simpa [Value.cells] using e0
      obtain rfl : c1 = _ := by simpa [Value.cells] using e1
      exact ⟨l, s, rfl, w0, w1⟩
theorem c_Use : Try.prog.cellsOf 77 = 4 := by kernel_rfl
theorem opn_Use : Opn R_Use 77 := fun enc W fuel cs y h => by
  obtain ⟨xs, n, _, _, hl, hlen, hf⟩ := DataW.trod_struct Try.underlying77 h
  rw [c_Use] at hl
  match cs, hl with
  | [c0, c1, c2, c3], _ =>
    have e2 : xs.length = 3 := hlen
    match xs, e2 with
    | [y0, y1, y2], _ =>
      have g0 := fld hf 0 44 0 2 rfl c_Label
      have g1 := fld hf 1 9 2 1 rfl c_String
      have g2 := fld hf 2 2 3 1 rfl c_int64
      obtain ⟨d0, h0⟩ := opn_Label enc W n [c0, c1] y0 g0
      obtain ⟨d1, h1⟩ := opn_String enc W n [c2] y1 g1
      obtain ⟨d2, h2⟩ := opn_i64 enc W n [c3] y2 g2
      exact ⟨(d0, d1, d2), ⟨[c0, c1], [c2, c3], rfl, h0, ⟨[c2], [c3], rfl, h1, h2⟩⟩⟩
theorem open_Use {H : Type} {enc : TypeId × Value → H} {W : World} {base : Nat} {v : Value} {d : DataW H} {p : List MemPlace} (o : Value.okWide Try.prog W .any base 77 v) (h : DataW.Trod enc Try.prog W 0 (fun _ => true) true 77 v d p) :
    ∃ (x0 : Int) (x1 : Int) (x2 : ByteArray) (x3 : Int), v = .agg #[.int .i64 x0, .int .i64 x1, .string x2, .int .i64 x3] ∧ R_Use.rd W W.heap.size ((x0, x1), x2, x3) [.int .i64 x0, .int .i64 x1, .string x2, .int .i64 x3] := by
  obtain ⟨⟨⟨x0, x1⟩, x2, x3⟩, cs, rfl, hr⟩ := open_st opn_Use Try.underlying77 o h
  obtain ⟨rfl, _⟩ := rd_Use hr
  exact ⟨x0, x1, x2, x3, rfl, hr⟩

theorem c_UseS : Try.prog.cellsOf 40 = 1 := by kernel_rfl
theorem opn_UseS : Opn (Sl R_Use) 40 := opn_sl opn_Use (by decide) Try.underlying40 c_Use

theorem open_uses {H : Type} {enc : TypeId × Value → H} {W : World} {base : Nat} {v : Value} {d : DataW H} {p : List MemPlace} (o : Value.okWide Try.prog W .any base 40 v) (h : DataW.Trod enc Try.prog W 0 (fun _ => true) true 40 v d p) : ∃ (L : List D_Use) (a : Option Addr) (cap : Nat), v = .slice a L.length cap ∧ RdSl R_Use W W.heap.size L a cap := open_sl opn_UseS Try.underlying40 o h
end Go.Proofs.Ytjhcphmehlihcaa.RepC
