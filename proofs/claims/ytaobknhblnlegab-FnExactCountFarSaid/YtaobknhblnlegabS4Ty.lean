/- Facts on the types of this translation, each closed by the kernel. No conditions. -/
import Derived.Test.YtaobknhblnlegabRows
import Derived.Test.YtaobknhblnlegabPwR
namespace Go.Proofs.Ytaobknhblnlegab.S4Ty
open Go.RowKit

def az (u : TypeId) : Nat := match u with  | _ => 0



end Go.Proofs.Ytaobknhblnlegab.S4Ty
