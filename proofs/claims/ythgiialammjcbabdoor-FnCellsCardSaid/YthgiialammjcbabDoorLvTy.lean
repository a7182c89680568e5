/- Facts on the types of this translation, each closed by the kernel. No conditions. -/
import Derived.Test.YthgiialammjcbabDoorRows
import Derived.Test.YthgiialammjcbabDoorPwR
namespace Go.Proofs.YthgiialammjcbabDoor.LvTy
open Go.RowKit

def az (u : TypeId) : Nat := match u with  | _ => 0



end Go.Proofs.YthgiialammjcbabDoor.LvTy
