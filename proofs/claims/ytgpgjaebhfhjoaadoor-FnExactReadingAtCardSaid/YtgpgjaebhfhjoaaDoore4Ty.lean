/- Facts on the types of this translation, each closed by the kernel. No conditions. -/
import Derived.Test.YtgpgjaebhfhjoaaDoorRows
import Derived.Test.YtgpgjaebhfhjoaaDoorPwR
namespace Go.Proofs.YtgpgjaebhfhjoaaDoor.e4Ty
open Go.RowKit

def az (u : TypeId) : Nat := match u with  | _ => 0



end Go.Proofs.YtgpgjaebhfhjoaaDoor.e4Ty
