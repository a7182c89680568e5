/- Facts on the types of this translation, each closed by the kernel. No conditions. -/
import Derived.Test.YtaobknhblnlegaaDoorRows
import Derived.Test.YtaobknhblnlegaaDoorPwR
namespace Go.Proofs.YtaobknhblnlegaaDoor.LwTy
open Go.RowKit

def az (u : TypeId) : Nat := match u with  | _ => 0



end Go.Proofs.YtaobknhblnlegaaDoor.LwTy
