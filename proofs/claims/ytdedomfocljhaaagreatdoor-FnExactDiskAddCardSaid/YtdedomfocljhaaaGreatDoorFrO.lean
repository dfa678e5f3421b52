/- Frames that came in, opened. -/
import Derived.Test.YtdedomfocljhaaaGreatDoorStO
import Derived.Test.YtdedomfocljhaaaGreatDoorFrG
namespace Go.Proofs.YtdedomfocljhaaaGreatDoor.RepC
open Go.ChangeShapes Go.WideShapes Go.ChangeAt Go.RowKit Go.Joins Go.Deep RowC ValC
set_option maxRecDepth 100000
set_option linter.unusedVariables false
set_option linter.unusedSimpArgs false

theorem c_Frame : Tryz.prog.cellsOf 26 = 2 := by kernel_rfl
theorem opn_Frame : Opn R_Frame 26 := fun enc W fuel cs y h => by
  obtain ⟨xs, n, _, _, hl, hlen, hf⟩ := DataW.trod_struct Tryz.underlying26 h
  rw [c_Frame] at hl
  match cs, hl with
  | [c0, c1], _ =>
    have e2 : xs.length = 2 := hlen
    match xs, e2 with
    | [y0, y1], _ =>
      have g0 := fld hf 0 2 0 1 rfl c_int64
      have g1 := fld hf 1 9 1 1 rfl c_String
      obtain ⟨d0, h0⟩ := opn_i64 enc W n [c0] y0 g0
      obtain ⟨d1, h1⟩ := opn_String enc W n [c1] y1 g1
      exact ⟨(d0, d1), ⟨[c0], [c1], rfl, h0, h1⟩⟩
theorem open_Frame {H : Type} {enc : TypeId × Value → H} {W : World} {base : Nat} {v : Value} {d : DataW H} {p : List MemPlace} (o : Value.okWide Tryz.prog W .any base 26 v) (h : DataW.Trod enc Tryz.prog W 0 (fun _ => true) true 26 v d p) :
    ∃ (x0 : Int) (x1 : ByteArray), v = .agg #[.int .i64 x0, .string x1] ∧ R_Frame.rd W W.heap.size (x0, x1) [.int .i64 x0, .string x1] := by
  obtain ⟨⟨x0, x1⟩, cs, rfl, hr⟩ := open_st opn_Frame Tryz.underlying26 o h
  obtain ⟨rfl, _⟩ := rd_Frame hr
  exact ⟨x0, x1, rfl, hr⟩
end Go.Proofs.YtdedomfocljhaaaGreatDoor.RepC
