/- Facts on the types of this translation, each closed by the kernel. No conditions. -/
import Derived.Test.YtfkdochnjcpedaaDoorRows
import Derived.Test.YtfkdochnjcpedaaDoorPwR
namespace Go.Proofs.YtfkdochnjcpedaaDoor.ImTy
open Go.RowKit

def az (u : TypeId) : Nat := match u with  | _ => 0

theorem arr_100 : ArTy Tryd.prog 100 10 1 := arTy_of Tryd.underlying100 (by kernel_rfl)
theorem one_9 : OneTy Tryd.prog 9 := oneTy_of Tryd.underlying9 rfl (by kernel_rfl)

end Go.Proofs.YtfkdochnjcpedaaDoor.ImTy
