/- Facts on the types of this translation, each closed by the kernel. No conditions. -/
import Derived.Test.YtdlckhdalbagmaaDoorRows
import Derived.Test.YtdlckhdalbagmaaDoorPwR
namespace Go.Proofs.YtdlckhdalbagmaaDoor.L4Ty
open Go.RowKit

def az (u : TypeId) : Nat := match u with  | _ => 0



end Go.Proofs.YtdlckhdalbagmaaDoor.L4Ty
