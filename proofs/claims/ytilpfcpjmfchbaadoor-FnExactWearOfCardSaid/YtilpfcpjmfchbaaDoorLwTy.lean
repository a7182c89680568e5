/- Facts on the types of this translation, each closed by the kernel. No conditions. -/
import Derived.Test.YtilpfcpjmfchbaaDoorRows
import Derived.Test.YtilpfcpjmfchbaaDoorPwR
namespace Go.Proofs.YtilpfcpjmfchbaaDoor.LwTy
open Go.RowKit

def az (u : TypeId) : Nat := match u with  | _ => 0



end Go.Proofs.YtilpfcpjmfchbaaDoor.LwTy
