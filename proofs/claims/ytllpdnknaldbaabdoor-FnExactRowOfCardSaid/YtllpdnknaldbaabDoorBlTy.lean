/- Facts on the types of this translation, each closed by the kernel. No conditions. -/
import Derived.Test.YtllpdnknaldbaabDoorRows
import Derived.Test.YtllpdnknaldbaabDoorPwR
namespace Go.Proofs.YtllpdnknaldbaabDoor.BlTy
open Go.RowKit

def az (u : TypeId) : Nat := match u with  | _ => 0



end Go.Proofs.YtllpdnknaldbaabDoor.BlTy
