/- Facts on the types of this translation, each closed by the kernel. No conditions. -/
import Derived.Test.YtilpfcpjmfchbaaDoorRows
import Derived.Test.YtilpfcpjmfchbaaDoorPwR
namespace Go.Proofs.YtilpfcpjmfchbaaDoor.I4rTy
open Go.RowKit

def az (u : TypeId) : Nat := match u with  | _ => 0

theorem one_3 : OneTy Tryd.prog 3 := oneTy_of Tryd.underlying3 rfl (by kernel_rfl)

end Go.Proofs.YtilpfcpjmfchbaaDoor.I4rTy
