/- Facts on the types of this translation, each closed by the kernel. No conditions. -/
import Derived.Test.YtahjedckfkkcnabDoorRows
import Derived.Test.YtahjedckfkkcnabDoorPwR
namespace Go.Proofs.YtahjedckfkkcnabDoor.LvTy
open Go.RowKit

def az (u : TypeId) : Nat := match u with  | _ => 0



end Go.Proofs.YtahjedckfkkcnabDoor.LvTy
