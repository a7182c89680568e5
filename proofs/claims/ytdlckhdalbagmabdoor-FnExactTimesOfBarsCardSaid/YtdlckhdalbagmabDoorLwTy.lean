/- Facts on the types of this translation, each closed by the kernel. No conditions. -/
import Derived.Test.YtdlckhdalbagmabDoorRows
import Derived.Test.YtdlckhdalbagmabDoorPwR
namespace Go.Proofs.YtdlckhdalbagmabDoor.LwTy
open Go.RowKit

def az (u : TypeId) : Nat := match u with  | _ => 0



end Go.Proofs.YtdlckhdalbagmabDoor.LwTy
