/- Facts on the types of this translation, each closed by the kernel. No conditions. -/
import Derived.Test.YtbddhdbieelpjaaDoorRows
import Derived.Test.YtbddhdbieelpjaaDoorPwR
namespace Go.Proofs.YtbddhdbieelpjaaDoor.a2Ty
open Go.RowKit

def az (u : TypeId) : Nat := match u with  | _ => 0

theorem arr_95 : ArTy Tryd.prog 95 10 1 := arTy_of Tryd.underlying95 (by kernel_rfl)
theorem one_9 : OneTy Tryd.prog 9 := oneTy_of Tryd.underlying9 rfl (by kernel_rfl)

end Go.Proofs.YtbddhdbieelpjaaDoor.a2Ty
