/- Facts on the types of this translation, each closed by the kernel. No conditions. -/
import Derived.Test.YtegccncfiimjkabDoorRows
import Derived.Test.YtegccncfiimjkabDoorPwR
namespace Go.Proofs.YtegccncfiimjkabDoor.Lw2Ty
open Go.RowKit

def az (u : TypeId) : Nat := match u with  | _ => 0



end Go.Proofs.YtegccncfiimjkabDoor.Lw2Ty
