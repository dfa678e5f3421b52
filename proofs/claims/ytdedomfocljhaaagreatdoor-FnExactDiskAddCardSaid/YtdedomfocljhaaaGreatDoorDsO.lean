/- Disks that came in, opened. -/
import Derived.Test.YtdedomfocljhaaaGreatDoorStO
import Derived.Test.YtdedomfocljhaaaGreatDoorDsG
namespace Go.Proofs.YtdedomfocljhaaaGreatDoor.RepC
open Go.ChangeShapes Go.WideShapes Go.ChangeAt Go.RowKit Go.Joins Go.Deep RowC ValC
set_option maxRecDepth 100000
set_option linter.unusedVariables false
set_option linter.unusedSimpArgs false

theorem c_Region : Tryz.prog.cellsOf 72 = 3 := by kernel_rfl
theorem opn_Region : Opn R_Region 72 := fun enc W fuel cs y h => by
  obtain ⟨xs, n, _, _, hl, hlen, hf⟩ := DataW.trod_struct Tryz.underlying72 h
  rw [c_Region] at hl
  match cs, hl with
  | [c0, c1, c2], _ =>
    have e2 : xs.length = 3 := hlen
    match xs, e2 with
    | [y0, y1, y2], _ =>
      have g0 := fld hf 0 9 0 1 rfl c_String
      have g1 := fld hf 1 9 1 1 rfl c_String
      have g2 := fld hf 2 9 2 1 rfl c_String
      obtain ⟨d0, h0⟩ := opn_String enc W n [c0] y0 g0
      obtain ⟨d1, h1⟩ := opn_String enc W n [c1] y1 g1
      obtain ⟨d2, h2⟩ := opn_String enc W n [c2] y2 g2
      exact ⟨(d0, d1, d2), ⟨[c0], [c1, c2], rfl, h0, ⟨[c1], [c2], rfl, h1, h2⟩⟩⟩
theorem open_Region {H : Type} {enc : TypeId × Value → H} {W : World} {base : Nat} {v : Value} {d : DataW H} {p : List MemPlace} (o : Value.okWide Tryz.prog W .any base 72 v) (h : DataW.Trod enc Tryz.prog W 0 (fun _ => true) true 72 v d p) :
    ∃ (x0 : ByteArray) (x1 : ByteArray) (x2 : ByteArray), v = .agg #[.string x0, .string x1, .string x2] ∧ R_Region.rd W W.heap.size (x0, x1, x2) [.string x0, .string x1, .string x2] := by
  obtain ⟨⟨x0, x1, x2⟩, cs, rfl, hr⟩ := open_st opn_Region Tryz.underlying72 o h
  obtain ⟨rfl, _⟩ := rd_Region hr
  exact ⟨x0, x1, x2, rfl, hr⟩
theorem c_RegionS : Tryz.prog.cellsOf 22 = 1 := by kernel_rfl
theorem opn_RegionS : Opn (Sl R_Region) 22 := opn_sl opn_Region (by decide) Tryz.underlying22 c_Region
theorem c_Disk : Tryz.prog.cellsOf 24 = 2 := by kernel_rfl
theorem opn_Disk : Opn R_Disk 24 := fun enc W fuel cs y h => by
  obtain ⟨xs, n, _, _, hl, hlen, hf⟩ := DataW.trod_struct Tryz.underlying24 h
  rw [c_Disk] at hl
  match cs, hl with
  | [c0, c1], _ =>
    have e2 : xs.length = 2 := hlen
    match xs, e2 with
    | [y0, y1], _ =>
      have g0 := fld hf 0 22 0 1 rfl c_RegionS
      have g1 := fld hf 1 2 1 1 rfl c_int64
      obtain ⟨d0, h0⟩ := opn_RegionS enc W n [c0] y0 g0
      obtain ⟨d1, h1⟩ := opn_i64 enc W n [c1] y1 g1
      exact ⟨(d0, d1), ⟨[c0], [c1], rfl, h0, h1⟩⟩
theorem open_Disk {H : Type} {enc : TypeId × Value → H} {W : World} {base : Nat} {v : Value} {d : DataW H} {p : List MemPlace} (o : Value.okWide Tryz.prog W .any base 24 v) (h : DataW.Trod enc Tryz.prog W 0 (fun _ => true) true 24 v d p) :
    ∃ (L0 : List (D_Region)) (x1 : Int) (a0 : Option Addr) (c0 : Nat), v = .agg #[.slice a0 L0.length c0, .int .i64 x1] ∧ R_Disk.rd W W.heap.size (L0, x1) [.slice a0 L0.length c0, .int .i64 x1] := by
  obtain ⟨⟨L0, x1⟩, cs, rfl, hr⟩ := open_st opn_Disk Tryz.underlying24 o h
  obtain ⟨a0, c0, rfl, h0⟩ := rdc_Disk hr
  exact ⟨L0, x1, a0, c0, rfl, h0⟩
end Go.Proofs.YtdedomfocljhaaaGreatDoor.RepC
