/- Facts on the types of this translation, each closed by the kernel. No conditions. -/
import Derived.Test.YtafeflonhbgbkaaGreatDoorRows
import Derived.Test.YtafeflonhbgbkaaGreatDoorPwR
namespace Go.Proofs.YtafeflonhbgbkaaGreatDoor.ItTy
open Go.RowKit

def az (u : TypeId) : Nat := match u with  | _ => 0



end Go.Proofs.YtafeflonhbgbkaaGreatDoor.ItTy
