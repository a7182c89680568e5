/- Facts on the types of this translation, each closed by the kernel. No conditions. -/
import Derived.Test.YtilpfcpjmfchbaaDoorRows
import Derived.Test.YtilpfcpjmfchbaaDoorPwR
namespace Go.Proofs.YtilpfcpjmfchbaaDoor.ImTy
open Go.RowKit

def az (u : TypeId) : Nat := match u with  | _ => 0

theorem arr_65 : ArTy Tryd.prog 65 10 1 := arTy_of Tryd.underlying65 (by kernel_rfl)
theorem one_9 : OneTy Tryd.prog 9 := oneTy_of Tryd.underlying9 rfl (by kernel_rfl)

end Go.Proofs.YtilpfcpjmfchbaaDoor.ImTy
