/- Facts on the types of this translation, each closed by the kernel. No conditions. -/
import Derived.Test.YtmjgkhfjhedpkaaDoorRows
import Derived.Test.YtmjgkhfjhedpkaaDoorPwR
namespace Go.Proofs.YtmjgkhfjhedpkaaDoor.f2Ty
open Go.RowKit

def az (u : TypeId) : Nat := match u with  | _ => 0

theorem arr_67 : ArTy Tryd.prog 67 10 1 := arTy_of Tryd.underlying67 (by kernel_rfl)
theorem one_9 : OneTy Tryd.prog 9 := oneTy_of Tryd.underlying9 rfl (by kernel_rfl)

end Go.Proofs.YtmjgkhfjhedpkaaDoor.f2Ty
