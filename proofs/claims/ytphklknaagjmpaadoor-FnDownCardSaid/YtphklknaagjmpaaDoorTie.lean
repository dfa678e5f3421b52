/-
  DERIVED. GIVEN WITH THE SEED: THE PROGRAM's TIES (one call each: nine closed facts by the kernel) AND EACH ROW's TIE, after the 31st guide's Derived/Test/Toyas{Tie, Card}.lean. No idea stands in it: it is a product of the set-up. Laid BY PROGRAM, IN A SANDBOX (cutbox-door.mjs). By AI agents, Wed Nov 11 2026. No macro, syntax, notation, axiom, sorry.
-/
import Derived.Test.YtphklknaagjmpaaDoorRows
import Derived.LaidByTextLater
import Derived.SevenTiedAt
import Derived.LaidSub
import Derived.LaidOnce
namespace Go.Proofs.YtphklknaagjmpaaDoor
open Go
set_option maxRecDepth 100000
theorem seatTie1 : Tryd.prog.laidByTextLater [("loop.example/g00658/impl.errForm", Rows.laid_loop_example_g00658_impl_errForm), ("loop.example/g00658/impl.errLabel", Rows.laid_loop_example_g00658_impl_errLabel), ("loop.example/g00658/impl.errRange", Rows.laid_loop_example_g00658_impl_errRange), ("loop.example/g00658/impl.errFull", Rows.laid_loop_example_g00658_impl_errFull)] [.sentinel, .sentinel, .sentinel, .sentinel] true :=
  Program.laidByTextLater_by_one 85 8 2 (by kernel_rfl) (by kernel_rfl) (by kernel_rfl) (by kernel_rfl) (by kernel_rfl) (by kernel_rfl) (fun _ _ => by kernel_rfl)
theorem noOwnUnsafe : Tryd.pinned.checked.prog.headLifts.contains "ownunsafe" = false := by kernel_rfl
theorem tie : Tryd.prog.laidByTextLater [("loop.example/g00658/impl.errForm", Rows.laid_loop_example_g00658_impl_errForm), ("loop.example/g00658/impl.errLabel", Rows.laid_loop_example_g00658_impl_errLabel), ("loop.example/g00658/impl.errRange", Rows.laid_loop_example_g00658_impl_errRange), ("loop.example/g00658/impl.errFull", Rows.laid_loop_example_g00658_impl_errFull)] [.sentinel, .sentinel, .sentinel, .sentinel] true :=
  Program.laidByTextLater.sub seatTie1 ["loop.example/g00658/impl.errForm", "loop.example/g00658/impl.errLabel", "loop.example/g00658/impl.errRange", "loop.example/g00658/impl.errFull"] (by kernel_rfl) (by kernel_rfl)
theorem fnDown_row_tie : Rows.fnDownRow.laidByTextAt .later Tryd.pinned [.sentinel, .sentinel, .sentinel, .sentinel] true :=
  OpenClaim.laidByTextAt_later rfl rfl tie noOwnUnsafe
theorem fnDownUpto_row_tie : Rows.fnDownUptoRow.laidByTextAt .later Tryd.pinned [.sentinel, .sentinel, .sentinel, .sentinel] true :=
  OpenClaim.laidByTextAt_later rfl rfl tie noOwnUnsafe
end Go.Proofs.YtphklknaagjmpaaDoor
