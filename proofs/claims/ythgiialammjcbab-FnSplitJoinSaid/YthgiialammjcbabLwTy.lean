/- Facts on the types of this translation, each closed by the kernel. No conditions. -/
import Derived.Test.YthgiialammjcbabRows
import Derived.Test.YthgiialammjcbabPwR
namespace Go.Proofs.Ythgiialammjcbab.LwTy
open Go.RowKit

def az (u : TypeId) : Nat := match u with  | _ => 0



end Go.Proofs.Ythgiialammjcbab.LwTy
