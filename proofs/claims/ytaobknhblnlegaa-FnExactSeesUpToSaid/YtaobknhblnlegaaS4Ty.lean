/- Facts on the types of this translation, each closed by the kernel. No conditions. -/
import Derived.Test.YtaobknhblnlegaaRows
import Derived.Test.YtaobknhblnlegaaPwR
namespace Go.Proofs.Ytaobknhblnlegaa.S4Ty
open Go.RowKit

def az (u : TypeId) : Nat := match u with  | _ => 0



end Go.Proofs.Ytaobknhblnlegaa.S4Ty
