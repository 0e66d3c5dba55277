/- The contract of sort.Search, at this program. -/
import Derived.Shelf.SlSorted.Search
import Derived.Test.YtdikelijnachjaaDoorProg
namespace Go.Proofs
set_option linter.unusedSimpArgs false
set_option linter.unusedVariables false
open Go.Shelf
def Tryd.search_ren : Go.Shelf.Ren := ⟨fun | 16 => 82 | n => n, fun | 3 => 3 | 35 => 53 | 4 => 4 | 38 => 94 | n => n, fun | n => n⟩
theorem Tryd.search : Go.Proofs.SlLaysO.n16 Tryd.prog Tryd.search_ren := {
  mixed := by kernel_rfl
  f16 := Tryd.func82.trans (congrArg some (by kernel_rfl))
  t3 := Tryd.underlying3
  a3 := Tryd.isAgg3
  z3 := Tryd.sizeOf3
  v3 := Tryd.zeroValue3
  t4 := Tryd.underlying4
  a4 := Tryd.isAgg4
  z4 := Tryd.sizeOf4
  v4 := Tryd.zeroValue4
  t35 := Tryd.underlying53
  a35 := Tryd.isAgg53
  z35 := Tryd.sizeOf53
  v35 := Tryd.zeroValue53
  t38 := Tryd.underlying94
  a38 := Tryd.isAgg94
  z38 := Tryd.sizeOf94
  v38 := Tryd.zeroValue94 }
end Go.Proofs

