/- Facts on the types of this translation, each closed by the kernel. No conditions. -/
import Derived.Test.YtiiobkibgkagbaaDoorRows
import Derived.Test.YtiiobkibgkagbaaDoorPwR
namespace Go.Proofs.YtiiobkibgkagbaaDoor.NmTy
open Go.RowKit

def az (u : TypeId) : Nat := match u with  | _ => 0



end Go.Proofs.YtiiobkibgkagbaaDoor.NmTy
