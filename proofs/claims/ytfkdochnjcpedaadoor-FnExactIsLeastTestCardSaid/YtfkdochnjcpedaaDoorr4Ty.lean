/- Facts on the types of this translation, each closed by the kernel. No conditions. -/
import Derived.Test.YtfkdochnjcpedaaDoorRows
import Derived.Test.YtfkdochnjcpedaaDoorPwR
namespace Go.Proofs.YtfkdochnjcpedaaDoor.r4Ty
open Go.RowKit

def az (u : TypeId) : Nat := match u with  | _ => 0



end Go.Proofs.YtfkdochnjcpedaaDoor.r4Ty
