/- Facts on the types of this translation, each closed by the kernel. No conditions. -/
import Derived.Test.YtgpgjaebhfhjoabDoorRows
import Derived.Test.YtgpgjaebhfhjoabDoorPwR
namespace Go.Proofs.YtgpgjaebhfhjoabDoor.l4Ty
open Go.RowKit

def az (u : TypeId) : Nat := match u with  | _ => 0



end Go.Proofs.YtgpgjaebhfhjoabDoor.l4Ty
