/- Facts on the types of this translation, each closed by the kernel. No conditions. -/
import Derived.Test.YtahjedckfkkcnaaDoorRows
import Derived.Test.YtahjedckfkkcnaaDoorPwR
namespace Go.Proofs.YtahjedckfkkcnaaDoor.LmTy
open Go.RowKit

def az (u : TypeId) : Nat := match u with  | _ => 0



end Go.Proofs.YtahjedckfkkcnaaDoor.LmTy
