/- The library's comparison of numbers, laid at this program. -/
import Derived.Shelf.SlicesG.Cmp
import Derived.Ground.SlgcProg
import Derived.Test.YtmmnkdilnlhbfaaProg
namespace Go.Proofs.Ytmmnkdilnlhbfaa.SortC
open Go.Shelf
def Try.cmpI64_ren : Go.Shelf.Ren := ⟨fun | 5 => 127 | 7 => 141 | n => n, fun | 22 => 2 | 3 => 3 | 4 => 4 | n => n, fun | n => n⟩
theorem Try.cmpI64 : Go.Proofs.SlLaysC2.n5 Try.prog Try.cmpI64_ren := {
  mixed := by kernel_rfl
  f5 := ⟨Try.f127.name, by decide, Try.func127.trans (congrArg some (by kernel_rfl))⟩
  f7 := ⟨Try.f141.name, by decide, Try.func141.trans (congrArg some (by kernel_rfl))⟩
  t3 := Try.underlying3
  a3 := Try.isAgg3
  z3 := Try.sizeOf3
  v3 := Try.zeroValue3
  t4 := Try.underlying4
  a4 := Try.isAgg4
  z4 := Try.sizeOf4
  v4 := Try.zeroValue4
  t22 := Try.underlying2
  a22 := Try.isAgg2
  z22 := Try.sizeOf2
  v22 := Try.zeroValue2 }
end Go.Proofs.Ytmmnkdilnlhbfaa.SortC
