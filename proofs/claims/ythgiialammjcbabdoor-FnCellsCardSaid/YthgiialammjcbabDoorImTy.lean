/- Facts on the types of this translation, each closed by the kernel. No conditions. -/
import Derived.Test.YthgiialammjcbabDoorRows
import Derived.Test.YthgiialammjcbabDoorPwR
namespace Go.Proofs.YthgiialammjcbabDoor.ImTy
open Go.RowKit

def az (u : TypeId) : Nat := match u with  | _ => 0

theorem arr_41 : ArTy Tryd.prog 41 10 1 := arTy_of Tryd.underlying41 (by kernel_rfl)
theorem one_9 : OneTy Tryd.prog 9 := oneTy_of Tryd.underlying9 rfl (by kernel_rfl)
theorem zvt_3 : ZvTy Tryd.prog 3 (.int .i64 0) := zvTy_of (z := .int .i64 0) (by kernel_rfl) rfl

end Go.Proofs.YthgiialammjcbabDoor.ImTy
