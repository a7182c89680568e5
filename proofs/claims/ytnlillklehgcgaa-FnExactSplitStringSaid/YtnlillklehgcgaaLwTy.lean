/- Facts on the types of this translation, each closed by the kernel. No conditions. -/
import Derived.Test.YtnlillklehgcgaaRows
import Derived.Test.YtnlillklehgcgaaPwR
namespace Go.Proofs.Ytnlillklehgcgaa.LwTy
open Go.RowKit

def az (u : TypeId) : Nat := match u with  | _ => 0



end Go.Proofs.Ytnlillklehgcgaa.LwTy
