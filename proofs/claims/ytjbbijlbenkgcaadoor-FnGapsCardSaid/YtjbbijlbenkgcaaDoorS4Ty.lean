/- Facts on the types of this translation, each closed by the kernel. No conditions. -/
import Derived.Test.YtjbbijlbenkgcaaDoorRows
import Derived.Test.YtjbbijlbenkgcaaDoorPwR
namespace Go.Proofs.YtjbbijlbenkgcaaDoor.S4Ty
open Go.RowKit

def az (u : TypeId) : Nat := match u with  | _ => 0



end Go.Proofs.YtjbbijlbenkgcaaDoor.S4Ty
