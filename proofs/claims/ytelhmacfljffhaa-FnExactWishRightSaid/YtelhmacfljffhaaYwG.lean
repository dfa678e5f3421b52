/- The laws' data: contracts. -/
import Derived.Test.YtelhmacfljffhaaYwT
import Derived.Test.YtelhmacfljffhaaGen
namespace Go.Proofs.Ytelhmacfljffhaa.RepC
open Go.RowKit RowC ValC
set_option linter.unusedVariables false
set_option linter.unusedSimpArgs false

theorem gsz_Wish {d : D_Wish} {cs : List Value} {W : World} {l : Int} (h0 : 0 ≤ l) (h1 : l ≤ 1048576) (h : R_Wish.rd W W.heap.size d cs) : Calls Try.prog 4 #[.agg cs.toArray, .int .i64 l] W (SzC l (R_Wish.sz d) W) := by
  obtain ⟨x0, x1, x2, x3, ⟨x4, x5⟩, x6, x7⟩ := d
  obtain ⟨rfl, b_x0⟩ := rd_Wish h
  exact sz_Wish h0 h1 b_x0
theorem gto_Wish {d : D_Wish} {cs : List Value} {W : World} (hsz : R_Wish.sz d ≤ 1048576) (h : R_Wish.rd W W.heap.size d cs) : Calls Try.prog 6 #[.agg cs.toArray] W (NewV R_Wish d W) := by
  obtain ⟨x0, x1, x2, x3, ⟨x4, x5⟩, x6, x7⟩ := d
  obtain ⟨rfl, b_x0⟩ := rd_Wish h
  exact to_Wish hsz b_x0
theorem owc_Wish {W : World} {S : Nat → Prop} {x0 : ByteArray} {x1 : Int} {x2 : Int} {x3 : Int} {x4 : Int} {x5 : Int} {x6 : Int} {x7 : Int} {cs : List Value} (h : R_Wish.ow W S (x0, x1, x2, x3, (x4, x5), x6, x7) cs) : cs = [.string x0, .int .i64 x1, .int .i64 x2, .int .i64 x3, .int .i64 x4, .int .i64 x5, .int .i64 x6, .int .i64 x7] ∧ R_Wish.ow W S (x0, x1, x2, x3, (x4, x5), x6, x7) [.string x0, .int .i64 x1, .int .i64 x2, .int .i64 x3, .int .i64 x4, .int .i64 x5, .int .i64 x6, .int .i64 x7] := by
  have h0 := h
  obtain ⟨rfl, _⟩ := ow0_Wish h
  exact ⟨rfl, h0⟩

end Go.Proofs.Ytelhmacfljffhaa.RepC
